package tests

import (
	"slices"
	"testing"

	"loop.example/hawser/impl"
)

func TestStepNumbers(t *testing.T) {
	if !slices.Equal(allSteps, []int{1, 2, 3, 4, 5, 6, 7}) {
		t.Error(allSteps)
	}
}

// P24, P25, P26, P27, P28, P29: every step, from every Way and version of both ends, with packets in flight and none.
func TestWaySteps(t *testing.T) {
	ends := allEnds()
	for _, m := range ends {
		for _, other := range ends {
			want := wantSteps(m, other)
			if next := impl.WayNext(m.state, other.state); !slices.Equal(next, want) {
				t.Errorf("steps %v, not %v: %v, other end %v", next, want, m, other)
			}
			for _, step := range allSteps {
				if slices.Contains(want, step) {
					checkStep(t, m.state, other.state, step)
				} else {
					checkNoStep(t, "not permitted", m.state, other.state, step)
				}
			}
		}
	}
}

// checkStep checks a step that is permitted.
func checkStep(t *testing.T, s, other impl.State, step int) {
	t.Helper()
	got, ok := impl.WayDo(s, other, step)
	if !ok || !impl.WayMay(s, other, step) {
		t.Errorf("step %d refused: %v, other end %v", step, s, other)
		return
	}
	if !impl.StateOk(got) || !sameState(got, wantDone(s, step)) {
		t.Errorf("step %d gives %v: %v, other end %v", step, got, s, other)
	}
	checkNoStep(t, "again", got, other, step)
}

// The table permits something in each of its rows, so that the other tests do not pass for want of cases.
func TestWayPermittedPairs(t *testing.T) {
	seen := map[int]int{}
	for _, p := range permittedPairs() {
		seen[p.step]++
		checkStep(t, p.this.state, p.other.state, p.step)
	}
	for _, step := range allSteps {
		if seen[step] < 6 {
			t.Error("step", step, "in", seen[step], "cases")
		}
	}
}

// P28: numbers that are no step are refused from every Way of both ends.
func TestWayNoSteps(t *testing.T) {
	ends := append(endsWith([]string{""}), endsWith([]string{"l"})...)
	steps := noSteps()
	for _, m := range ends {
		for _, other := range ends {
			for _, step := range steps {
				if impl.WayMay(m.state, other.state, step) {
					t.Errorf("step %d permitted: %v, other end %v", step, m, other)
				}
			}
		}
		for _, step := range steps {
			checkNoStep(t, "no such step", m.state, m.state, step)
		}
	}
}

// P26, P28: a state that is not valid, of this end, of the other one and of both, where with a valid one a step is permitted.
func TestWayInvalidStates(t *testing.T) {
	for _, p := range permittedPairs() {
		s, other := p.this.state, p.other.state
		for _, bad := range invalidStates(s) {
			checkNoEnds(t, "this end: "+bad.name, bad.state, other)
			checkNoEnds(t, "both ends: "+bad.name, bad.state, bad.state)
		}
		for _, bad := range invalidStates(other) {
			checkNoEnds(t, "other end: "+bad.name, s, bad.state)
		}
	}
}

// P26: the steps for which nothing is required of the other end require a valid state of it all the same.
func TestWayInvalidOtherEnd(t *testing.T) {
	for _, step := range []int{impl.StepInit, impl.StepNew} {
		way := map[int]int{impl.StepInit: impl.WayNone, impl.StepNew: impl.WayOpen}[step]
		s := endOf(way, 1, "l").state
		checkStep(t, s, impl.StateNew(), step)
		checkNoStep(t, "zero value", s, impl.State{}, step)
		checkNoStep(t, "no version", s, impl.State{Got: make([]int, 8)}, step)
		checkNoStep(t, "no Got", s, impl.State{Ver: 1}, step)
	}
}

// P24
func TestWayOtherEndNotBegun(t *testing.T) {
	for _, m := range allEnds() {
		for _, other := range allEnds() {
			if other.state.Way == impl.WayNone {
				checkNoStep(t, "not begun", m.state, other.state, impl.StepTry)
			}
			if other.state.Way == impl.WayNone || other.state.Way == impl.WayInit {
				checkNoStep(t, "not tried", m.state, other.state, impl.StepAck)
				checkNoStep(t, "not tried", m.state, other.state, impl.StepDone)
			}
		}
	}
}

// P25: this end has a packet in flight, at each place, whatever the other end has.
func TestWayFreshNotInFlight(t *testing.T) {
	for at := range 8 {
		fates := []byte("dbdbdbdb")
		fates[at] = 'l'
		for ver := 1; ver <= 8; ver++ {
			m := endOf(impl.WayFlush, ver, string(fates))
			for _, other := range allEnds() {
				checkNoStep(t, "in flight", m.state, other.state, impl.StepFresh)
			}
			free := endOf(impl.WayFlush, ver, "dbdbdbdb")
			checkNoStep(t, "in flight at the other end", free.state, m.state, impl.StepFresh)
			checkStep(t, free.state, free.state, impl.StepFresh)
		}
	}
}

// P25: a packet of an earlier version is in flight as well.
func TestWayFreshEarlierVersionInFlight(t *testing.T) {
	old := makeState(impl.WayFlush, 5, "l", variedPacket, func(int) int { return 1 }, gotLists[0]).state
	free := endOf(impl.WayFlush, 5, "d").state
	checkNoStep(t, "at this end", old, free, impl.StepFresh)
	checkNoStep(t, "at the other end", free, old, impl.StepFresh)
}

// P25: what became of packets of the other chain is not in flight.
func TestWayFreshWhateverWasGot(t *testing.T) {
	for _, mine := range gotLists {
		for _, others := range gotLists {
			s := makeState(impl.WayFlush, 3, "db", variedPacket, func(int) int { return 3 }, mine).state
			other := makeState(impl.WayFlush, 3, "bd", variedPacket, func(int) int { return 2 }, others).state
			checkStep(t, s, other, impl.StepFresh)
		}
	}
}

// P25: which other ends let this one renew: wanting the same with nothing in flight, or having it, in flight or not.
func TestWayFreshOtherEnd(t *testing.T) {
	for _, ver := range []int{1, 2, 4, 7, 8} {
		s := endOf(impl.WayFlush, ver, "db").state
		for _, other := range allEnds() {
			o := other.state
			has := o.Ver == ver+1
			wants := o.Way == impl.WayFlush && o.Want == ver+1 && !other.inFlight()
			if has || wants {
				checkStep(t, s, o, impl.StepFresh)
			} else {
				checkNoStep(t, "not ready", s, o, impl.StepFresh)
			}
		}
	}
}

// P27: the versions around VerMax.
func TestWayLastVersions(t *testing.T) {
	last, ahead := endOf(impl.WayOpen, 9, "").state, endOf(impl.WayOpen, 8, "").state
	for _, other := range allEnds() {
		checkNoStep(t, "VerMax", last, other.state, impl.StepNew)
		checkNoStep(t, "VerMax", last, other.state, impl.StepAlso)
		checkStep(t, ahead, other.state, impl.StepNew)
	}
	flush := mustDo(t, ahead, last, impl.StepNew)
	if flush.Want != 9 || flush.Ver != 8 {
		t.Error(flush)
	}
	if got := mustDo(t, flush, last, impl.StepFresh); got.Ver != 9 || got.Want != 0 || got.Way != impl.WayOpen {
		t.Error(got)
	}
}

// P26: an end goes along with an upgrade to the version that follows its own, and to no other one.
func TestWayAlso(t *testing.T) {
	for ver := 1; ver <= 9; ver++ {
		for otherVer := 1; otherVer <= 8; otherVer++ {
			for _, fates := range []string{"", "l", "db"} {
				s, other := endOf(impl.WayOpen, ver, fates).state, endOf(impl.WayFlush, otherVer, fates).state
				if other.Want != ver+1 {
					checkNoStep(t, "another version", s, other, impl.StepAlso)
				} else if got := mustDo(t, s, other, impl.StepAlso); got.Want != other.Want {
					t.Error(got, other)
				}
			}
		}
	}
}

// P27
func TestWayVersions(t *testing.T) {
	for _, m := range allEnds() {
		for _, other := range allEnds() {
			for _, step := range impl.WayNext(m.state, other.state) {
				want := m.state.Ver
				if step == impl.StepFresh {
					want++
				}
				if got, ok := impl.WayDo(m.state, other.state, step); !ok || got.Ver != want {
					t.Errorf("step %d gives %v: %v, other end %v", step, got, m, other)
				}
			}
		}
	}
}

// P28
func TestWayNextKinds(t *testing.T) {
	for _, m := range allEnds() {
		for _, other := range allEnds() {
			next := impl.WayNext(m.state, other.state)
			for i, step := range next {
				isOpen := m.state.Way == impl.WayOpen || m.state.Way == impl.WayFlush
				if isOpen != (step >= impl.StepNew) || i > 0 && next[i-1] >= step {
					t.Errorf("steps %v: %v, other end %v", next, m, other)
				}
			}
		}
	}
}

// P26: packets of any content, of any fate, and what became of those of the other chain are as they were.
func TestWayPacketsUnchanged(t *testing.T) {
	for _, m := range validStates() {
		other := m.state
		for _, step := range impl.WayNext(m.state, other) {
			got := mustDo(t, m.state, other, step)
			for seq := 0; seq <= 9; seq++ {
				if impl.StateSettled(got, seq) != m.wantSettled(seq) || impl.StateGot(got, seq) != impl.StateGot(m.state, seq) {
					t.Errorf("step %d, packet %d: %v", step, seq, m)
				}
			}
		}
	}
}

// P30
func TestWayAfterUpgradeBegan(t *testing.T) {
	ends := allEnds()
	for _, m := range ends {
		if m.state.Way != impl.WayOpen || m.state.Ver == 9 {
			continue
		}
		flush := endOf(impl.WayFlush, m.state.Ver, "l").state
		for _, step := range []int{impl.StepNew, impl.StepAlso} {
			got := mustDo(t, m.state, flush, step)
			for _, other := range ends {
				next := impl.WayNext(got, other.state)
				if len(next) > 1 || len(next) == 1 && (next[0] != impl.StepFresh || m.inFlight()) {
					t.Errorf("steps %v after step %d: %v, other end %v", next, step, m, other)
				}
			}
			ready := endOf(impl.WayFlush, m.state.Ver, "").state
			if impl.WayMay(got, ready, impl.StepFresh) == m.inFlight() {
				t.Errorf("after step %d: %v", step, m)
			}
		}
	}
}

// P31: one end begins.
func TestWayOneEndBegins(t *testing.T) {
	a, b := impl.StateNew(), impl.StateNew()
	a = mustDo(t, a, b, impl.StepInit)
	b = mustDo(t, b, a, impl.StepTry)
	a = mustDo(t, a, b, impl.StepAck)
	b = mustDo(t, b, a, impl.StepDone)
	checkBothOpen(t, a, b, 1)
}

// P31: both ends begin, and one of them tries.
func TestWayBothBeginOneTries(t *testing.T) {
	a, b := impl.StateNew(), impl.StateNew()
	a, b = mustDo(t, a, b, impl.StepInit), mustDo(t, b, a, impl.StepInit)
	a = mustDo(t, a, b, impl.StepTry)
	b = mustDo(t, b, a, impl.StepAck)
	a = mustDo(t, a, b, impl.StepDone)
	checkBothOpen(t, a, b, 1)
}

// P31: both ends begin, and both try, each by the state in which the other one has begun.
func TestWayBothBeginBothTry(t *testing.T) {
	a, b := impl.StateNew(), impl.StateNew()
	a, b = mustDo(t, a, b, impl.StepInit), mustDo(t, b, a, impl.StepInit)
	a, b = mustDo(t, a, b, impl.StepTry), mustDo(t, b, a, impl.StepTry)
	a, b = mustDo(t, a, b, impl.StepDone), mustDo(t, b, a, impl.StepDone)
	checkBothOpen(t, a, b, 1)
}

func checkBothOpen(t *testing.T, a, b impl.State, ver int) {
	t.Helper()
	if a.Way != impl.WayOpen || b.Way != impl.WayOpen || a.Ver != ver || b.Ver != ver {
		t.Error(a, b)
	}
}

// P31: whatever steps the ends do in whatever order, they come to no stop but with both open, and neither opens ahead of the other one's try.
func TestWayHandshakesAllOpen(t *testing.T) {
	stops := 0
	var follow func(a, b impl.State)
	follow = func(a, b impl.State) {
		if a.Way >= impl.WayOpen && b.Way < impl.WayTry || b.Way >= impl.WayOpen && a.Way < impl.WayTry {
			t.Errorf("opened too early: %v, %v", a, b)
		}
		stop := true
		for _, step := range allSteps[:4] {
			if next, ok := impl.WayDo(a, b, step); ok {
				stop = false
				follow(next, b)
			}
			if next, ok := impl.WayDo(b, a, step); ok {
				stop = false
				follow(a, next)
			}
		}
		if stop {
			stops++
			checkBothOpen(t, a, b, 1)
		}
	}
	follow(impl.StateNew(), impl.StateNew())
	if stops == 0 {
		t.Error("no handshake came to a stop")
	}
}

// P25, P27: both ends begin an upgrade at once, and one of them has a packet in flight at first.
func TestWayBothUpgradeAtOnce(t *testing.T) {
	a, b := endOf(impl.WayOpen, 1, "l").state, endOf(impl.WayOpen, 1, "db").state
	a, b = mustDo(t, a, b, impl.StepNew), mustDo(t, b, a, impl.StepNew)
	checkNoStep(t, "in flight at this end", a, b, impl.StepFresh)
	checkNoStep(t, "in flight at the other end", b, a, impl.StepFresh)
	checkNoStep(t, "upgrade already begun", b, a, impl.StepAlso)
	a.Live[0] = false
	wasFlush := a
	a = mustDo(t, a, b, impl.StepFresh)
	byOld, byNew := mustDo(t, b, wasFlush, impl.StepFresh), mustDo(t, b, a, impl.StepFresh)
	if !sameState(byOld, byNew) {
		t.Error(byOld, byNew)
	}
	checkBothOpen(t, a, byNew, 2)
}

// P25: the end that is ahead has sent in the new version, and has even begun the next upgrade; the other one follows all the same.
func TestWayOtherEndIsAhead(t *testing.T) {
	behind := endOf(impl.WayFlush, 1, "d").state
	sent := endOf(impl.WayOpen, 2, "l").state
	checkBothOpen(t, sent, mustDo(t, behind, sent, impl.StepFresh), 2)
	again := mustDo(t, sent, behind, impl.StepNew)
	after := mustDo(t, behind, again, impl.StepFresh)
	if after.Ver != 2 {
		t.Error(after)
	}
	mustDo(t, after, again, impl.StepAlso)
	checkNoStep(t, "ahead by two", behind, endOf(impl.WayOpen, 3, "").state, impl.StepFresh)
	checkNoStep(t, "not behind", endOf(impl.WayFlush, 2, "").state, endOf(impl.WayFlush, 1, "").state, impl.StepFresh)
}

// P27: from the first version to the last one, by turns.
func TestWayUpgradeToLastVersion(t *testing.T) {
	a, b := endOf(impl.WayOpen, 1, "").state, endOf(impl.WayOpen, 1, "").state
	for ver := 2; ver <= 9; ver++ {
		a = mustDo(t, a, b, impl.StepNew)
		b = mustDo(t, b, a, impl.StepAlso)
		b = mustDo(t, b, a, impl.StepFresh)
		a = mustDo(t, a, b, impl.StepFresh)
		checkBothOpen(t, a, b, ver)
		a, b = b, a
	}
	checkNoStep(t, "VerMax", a, b, impl.StepNew)
	if next := impl.WayNext(a, b); len(next) != 0 {
		t.Error(next)
	}
}

// General rules: arguments stay as they are, also beyond the length of their lists, nothing there is looked at, and results share no memory.
func TestWayArguments(t *testing.T) {
	for _, p := range permittedPairs() {
		s, other := roomyState(p.this.state), roomyState(p.other.state)
		beforeS, beforeOther := copyState(wholeState(s)), copyState(wholeState(other))
		got, ok := impl.WayDo(s, other, p.step)
		second, _ := impl.WayDo(s, other, p.step)
		next := impl.WayNext(s, other)
		if !ok || !impl.WayMay(s, other, p.step) || !slices.Equal(next, wantSteps(p.this, p.other)) {
			t.Errorf("with spare capacity: %v, %v", ok, next)
		}
		if spoil(got) {
			t.Error("Live and Back of the result share memory")
		}
		fill(next, 777)
		if !sameState(wholeState(s), beforeS) || !sameState(wholeState(other), beforeOther) {
			t.Errorf("step %d: arguments changed", p.step)
		}
		if !sameState(second, wantDone(p.this.state, p.step)) || !slices.Equal(impl.WayNext(s, other), wantSteps(p.this, p.other)) {
			t.Errorf("step %d: results share memory", p.step)
		}
	}
}

// General rules: both ends may be one and the same state, which stays as it is.
func TestWaySameStateTwice(t *testing.T) {
	s := roomyState(endOf(impl.WayFlush, 1, "db").state)
	before := copyState(wholeState(s))
	spoil(mustDo(t, s, s, impl.StepFresh))
	if !sameState(wholeState(s), before) {
		t.Error(s)
	}
}

// General rules: an empty list may be nil or not.
func TestWayEmptyLists(t *testing.T) {
	for _, way := range ways {
		s := endOf(way, 1, "").state
		e := changedState(s, func(s *impl.State) { s.Sent, s.Live, s.Back = []impl.Packet{}, []bool{}, []bool{} })
		for _, other := range allEnds() {
			if !slices.Equal(impl.WayNext(s, other.state), impl.WayNext(e, other.state)) || !slices.Equal(impl.WayNext(other.state, s), impl.WayNext(other.state, e)) {
				t.Errorf("Way %d, other end %v", way, other)
			}
		}
	}
}
