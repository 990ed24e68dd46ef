package tests

import (
	"slices"
	"testing"

	"loop.example/hawser/impl"
)

// P60, P61: each number of rounds that there may be, and others.
func TestCalmRounds(t *testing.T) {
	w := changes(t, openWorld(t), sendOn(1, sending{1, 1, 2, 3, 50}), stepOn(2, 0, impl.StepNew))
	for rounds := -3; rounds <= 33; rounds++ {
		if rounds >= 0 && rounds <= impl.CalmMax {
			got := checkCalm(t, w, rounds)
			if len(got.Chains[0].Past) != 2+rounds || len(got.Chains[1].Past) != 1+rounds {
				t.Error(rounds, got)
			}
		} else if got := impl.WorldCalm(w, rounds); !zeroWorld(got) {
			t.Error(rounds, got)
		}
	}
	for _, rounds := range append([]int{-30, 60, 1<<8 + 1, 1<<16 + 30, 1<<32 + 30}, farNumbers...) {
		if got := impl.WorldCalm(w, rounds); !zeroWorld(got) {
			t.Error(rounds, got)
		}
	}
	if !sameWorld(impl.WorldCalm(w, 0), w) {
		t.Error("no rounds, but changed", impl.WorldCalm(w, 0))
	}
}

// P61, P60: runs of every kind, with every number of heights, compared with a second statement of a round.
func TestCalmOfMadeWorlds(t *testing.T) {
	for _, w := range madeWorlds() {
		for _, rounds := range []int{1, 2, 4} {
			checkCalm(t, w, rounds)
		}
	}
}

// P72: nothing is begun; all rounds do is to end heights and to make them known.
func TestCalmOfNothingBegun(t *testing.T) {
	for rounds := 0; rounds <= impl.CalmMax; rounds++ {
		w := checkCalm(t, impl.WorldNew(), rounds)
		if !sameButHeights(w, impl.WorldNew()) {
			t.Error(rounds, w)
		}
		for id, c := range w.Chains {
			if len(c.Past) != rounds || !slices.Equal(c.Knows, countedTo(rounds)) || c.State.Way != impl.WayNone || c.State.Ver != 1 {
				t.Error(rounds, c)
			}
			for kind := 1; kind <= 2; kind++ {
				mustNotChange(t, w, sendOn(id+1, sending{kind, 1, 2, 3, impl.HeightMax}))
			}
		}
	}
}

// P72, P61: up to HeightMax heights and on, with nothing begun.
func TestCalmOfNothingBegunUpToLastHeight(t *testing.T) {
	w := impl.WorldNew()
	for n := 1; n <= 4; n++ {
		w = checkCalm(t, w, impl.CalmMax)
		heights := min(n*impl.CalmMax, impl.HeightMax)
		for _, c := range w.Chains {
			if len(c.Past) != heights || !slices.Equal(c.Knows, countedTo(heights)) {
				t.Error(n, c)
			}
		}
		if !sameButHeights(w, impl.WorldNew()) {
			t.Error(n, w)
		}
	}
	if got := impl.WorldCalm(w, impl.CalmMax); !sameWorld(got, w) {
		t.Error(got)
	}
}

// P72: transfers between users begin nothing.
func TestCalmAfterMoves(t *testing.T) {
	w := changes(t, impl.WorldNew(), moveOn(1, 1, 1, 2, 7), moveOn(2, 1, 3, 1, 10), blockOn(2))
	if got := checkCalm(t, w, 20); !sameButHeights(got, w) {
		t.Error(got)
	}
}

// P60, P68: a channel that one end or both begin is opened, and not before.
func TestCalmOpens(t *testing.T) {
	first, second := stepOn(1, 0, impl.StepInit), stepOn(2, 0, impl.StepInit)
	for _, events := range [][]impl.Event{{first}, {second}, {first, second}, {blockOn(2), first}, {second, blockOn(1), blockOn(2)}, opening()[:4], opening()[:7]} {
		w := changes(t, impl.WorldNew(), events...)
		w = checkCalm(t, w, 5)
		for _, c := range w.Chains {
			if c.State.Way != impl.WayOpen || c.State.Ver != 1 {
				t.Error(events, c.State)
			}
		}
	}
	w := checkCalm(t, changes(t, impl.WorldNew(), first), 1)
	if w.Chains[0].State.Way != impl.WayInit || w.Chains[1].State.Way != impl.WayTry {
		t.Error(w)
	}
}

// flight is a run at some heights, with an open channel, before anything is sent.
func flight(t *testing.T, first, second int) impl.World {
	t.Helper()
	w := openWorld(t)
	for len(w.Chains[0].Past) < first {
		w = impl.WorldDo(w, blockOn(1))
	}
	for len(w.Chains[1].Past) < second {
		w = impl.WorldDo(w, blockOn(2))
	}
	return w
}

// P57, P60, P67: packets of both chains that come, that are rejected and that time out, at few heights and nearly at the last one, with no upgrade, one begun at either end, and at both.
func TestCalmWithPacketsInFlight(t *testing.T) {
	upgrades := map[string][]impl.Event{
		"none": nil, "of chain 1": {stepOn(1, 0, impl.StepNew)}, "of chain 2": {stepOn(2, 0, impl.StepNew)},
		"of both": {stepOn(1, 0, impl.StepNew), stepOn(2, 0, impl.StepNew)},
	}
	for name, upgrade := range upgrades {
		for _, heights := range [][2]int{{2, 1}, {9, 4}, {30, 60}, {60, 30}, {80, 80}, {87, 87}} {
			w := flight(t, heights[0], heights[1])
			for id := 1; id <= 2; id++ {
				late := heights[2-id] + 2 // the height in which the packet is shown first, which is one too late
				w = changes(t, w, sendOn(id, sending{1, 1, 2, 3, 90}), sendOn(id, sending{1, 2, 0, 4, 90}), sendOn(id, sending{1, 3, 3, 5, late}))
			}
			w = checkCalm(t, changes(t, w, upgrade...), 8)
			want := bank([]int{7, 10, 10}, []int{0, 3, 0}, 3)
			for _, c := range w.Chains {
				if !sameBank(c.Bank, want) || madeOf(c.State).fates != "dbb" || !slices.Equal(c.State.Got[:3], []int{1, 2, 0}) {
					t.Errorf("upgrade %s, heights %v: %v", name, heights, c)
				}
				if heights[0] == 87 {
					continue // too few heights are left for an upgrade
				}
				if c.State.Way != impl.WayOpen || c.State.Ver != min(2, 1+len(upgrade)) {
					t.Errorf("upgrade %s, heights %v: %v", name, heights, c.State)
				}
			}
		}
	}
}

// P57, P67: every number of heights up to the last one, and packets that have until then: the last one that can come is shown two heights ahead.
func TestCalmNearLastHeight(t *testing.T) {
	for heights := impl.HeightMax - 6; heights <= impl.HeightMax; heights++ {
		for _, until := range []int{heights - 1, heights, heights + 1, heights + 2, heights + 3, impl.HeightMax} {
			if until > impl.HeightMax {
				continue
			}
			w := flight(t, heights, heights)
			for id := 1; id <= 2; id++ {
				w = changes(t, w, sendOn(id, sending{1, 1, 2, 3, until}), sendOn(id, sending{1, 2, 0, 4, until}))
			}
			comes := heights+2 < until && heights < impl.HeightMax
			want, fates := impl.BankNew(), "bb"
			if comes {
				want, fates = bank([]int{7, 10, 10}, []int{0, 3, 0}, 3), "db"
			}
			w = checkCalm(t, w, 6)
			for _, c := range w.Chains {
				if !sameBank(c.Bank, want) || madeOf(c.State).fates != fates || len(c.Past) != impl.HeightMax && len(c.Past) != heights+6 {
					t.Errorf("heights %d, until %d: %v", heights, until, c)
				}
			}
		}
	}
}

// shownWorld has HeightMax heights on both chains, the last of which is this pair of states; the chains have become the other pair since.
func shownWorld(first, second, firstNow, secondNow impl.State) impl.World {
	b := bank([]int{6, 6, 6}, []int{4, 4, 4}, 12)
	w := worldOf(chainOf(1, b, firstNow, impl.HeightMax, nil), chainOf(2, b, secondNow, impl.HeightMax, nil))
	w.Chains[0].Past[impl.HeightMax-1], w.Chains[1].Past[impl.HeightMax-1] = copyState(first), copyState(second)
	return w
}

// P60: at HeightMax no height ends any more; all goes by the last one, and a second round finds nothing new.
func TestCalmAtLastHeight(t *testing.T) {
	s := endOf(impl.WayOpen, 1, "lll").state
	for i := range s.Sent {
		s.Sent[i] = impl.Packet{Seq: i + 1, Kind: 1, From: i + 1, To: 2, Sum: 2 + i, Until: 90 - 40*i, Ver: 1}
	}
	s.Got = []int{1, 2, 0, 0, 0, 0, 0, 0}
	w := shownWorld(s, s, s, s)
	got := checkCalm(t, w, 1)
	for _, c := range got.Chains {
		if len(c.Past) != impl.HeightMax || !slices.Equal(c.Knows, []int{impl.HeightMax}) {
			t.Error(len(c.Past), c.Knows)
		}
		if madeOf(c.State).fates != "dbb" || !sameBank(c.Bank, bank([]int{6, 9, 10}, []int{4, 4, 4}, 5)) || !slices.Equal(c.State.Got, s.Got) {
			t.Error(c)
		}
	}
	for _, rounds := range []int{2, 30} {
		if more := checkCalm(t, w, rounds); !sameWorld(more, got) {
			t.Error(rounds, more)
		}
	}
}

// P60, P68: at HeightMax, the steps that the last height allows, from every Way of both ends, then and now.
func TestCalmStepsAtLastHeight(t *testing.T) {
	ends := []impl.State{
		endOf(impl.WayNone, 1, "").state, endOf(impl.WayInit, 1, "").state, endOf(impl.WayTry, 1, "").state, endOf(impl.WayOpen, 1, "d").state,
		endOf(impl.WayOpen, 1, "l").state, endOf(impl.WayFlush, 1, "l").state, endOf(impl.WayFlush, 1, "d").state, endOf(impl.WayOpen, 2, "d").state,
	}
	for _, then := range ends {
		for _, now := range ends {
			for _, shown := range ends {
				checkCalm(t, shownWorld(then, shown, now, shown), 1)
				checkCalm(t, shownWorld(shown, then, then, now), 1)
			}
		}
	}
	open := endOf(impl.WayOpen, 1, "").state
	flush := endOf(impl.WayFlush, 1, "").state
	w := checkCalm(t, shownWorld(open, flush, open, flush), 1)
	if first, second := w.Chains[0].State, w.Chains[1].State; first.Ver != 2 || first.Way != impl.WayOpen || !sameState(second, flush) {
		t.Error(first, second)
	}
}

// P60, P68: upgrades at one end or both, one after the other, up to VerMax and on.
func TestCalmUpgrades(t *testing.T) {
	w := openWorld(t)
	for ver := 2; ver <= impl.VerMax; ver++ {
		for id := 1; id <= 2; id++ {
			if ver%3 != id {
				w = mustChange(t, w, stepOn(id, 0, impl.StepNew))
			}
		}
		w = checkCalm(t, w, 6)
		for _, c := range w.Chains {
			if c.State.Way != impl.WayOpen || c.State.Ver != ver {
				t.Error(ver, c.State)
			}
		}
	}
	for id := 1; id <= 2; id++ {
		mustNotChange(t, w, stepOn(id, 0, impl.StepNew))
	}
}

// Everything is relayed in order: packets by their numbers, ahead of the chain's own ones, and those by their numbers, whether rejected or late.
func TestCalmOrder(t *testing.T) {
	p := func(seq, kind, user, sum, until int) impl.Packet {
		return impl.Packet{Seq: seq, Kind: kind, From: user, To: user, Sum: sum, Until: until, Ver: 1}
	}
	first, second := endOf(impl.WayOpen, 1, "lll").state, endOf(impl.WayOpen, 1, "ll").state
	first.Sent = []impl.Packet{p(1, 1, 3, 4, 2), p(2, 1, 1, 3, 90), p(3, 1, 2, 2, 2)}
	second.Sent = []impl.Packet{p(1, 2, 1, 6, 90), p(2, 2, 2, 5, 90)}
	second.Got = []int{0, 2, 0, 0, 0, 0, 0, 0}
	paid := []impl.Packet{second.Sent[0], second.Sent[1], first.Sent[0], first.Sent[1], first.Sent[2]}
	for locked := 0; locked <= 24; locked++ {
		want := bank([]int{30 - locked, 0, 0}, []int{0, 0, 0}, locked)
		w := worldOf(chainOf(1, want, first, 1, nil), chainOf(2, bank([]int{10, 10, 10}, []int{0, 0, 0}, 0), second, 1, nil))
		for _, p := range paid {
			if want.Locked >= p.Sum {
				want = withLocked(with(want, impl.CoinOwn, p.To, p.Sum), -p.Sum)
			}
		}
		if got := checkCalm(t, w, 1); !sameBank(got.Chains[0].Bank, want) || madeOf(got.Chains[0].State).fates != "bbb" {
			t.Errorf("%d locked: %v, not %v", locked, got.Chains[0], want)
		}
	}
}

// P61: any two parts of a number of rounds.
func TestCalmInParts(t *testing.T) {
	for seed := range 6 {
		w, _ := drawRun(seed, showNothing)
		for rounds := 0; rounds <= impl.CalmMax; rounds += 5 {
			whole := impl.WorldCalm(w, rounds)
			for first := 0; first <= rounds; first++ {
				if got := impl.WorldCalm(impl.WorldCalm(w, first), rounds-first); !sameWorld(got, whole) {
					t.Fatal(seed, rounds, first)
				}
			}
		}
	}
}

// P60, P57, P58, P62, P66, P67, P68, P69, P70: quiet rounds behind drawn events, of PlayMax and fewer.
func TestCalmAfterDrawnEvents(t *testing.T) {
	flying := 0
	for seed := 2000; seed < 2120; seed++ {
		_, events := drawRun(seed, showNothing)
		w, _ := impl.WorldPlay(events[:impl.PlayMax-seed%3*20])
		flying += len(impl.StateLive(w.Chains[0].State)) + len(impl.StateLive(w.Chains[1].State))
		calm := impl.WorldCalm(w, 20)
		for _, rounds := range []int{1, 2, impl.CalmMax} {
			if more := impl.WorldCalm(calm, rounds); !sameButHeights(more, calm) {
				t.Fatalf("%d further rounds change %v to %v, after %v", rounds, calm, more, events)
			}
		}
		checkStanding(t, calm)
		if t.Failed() {
			t.Fatal(events)
		}
	}
	if flying < 100 {
		t.Error("too few packets in flight", flying)
	}
}

// P61: quiet rounds behind drawn events, compared with a second statement of a round.
func TestCalmAfterDrawnEventsEachByEach(t *testing.T) {
	for seed := 3000; seed < 3040; seed++ {
		w, _ := drawRun(seed, showNothing)
		checkCalm(t, w, 3)
	}
}
