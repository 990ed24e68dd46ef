package tests

import (
	"math"
	"slices"
	"strings"
	"testing"

	"loop.example/hawser/impl"
)

var allSteps = []int{impl.StepInit, impl.StepTry, impl.StepAck, impl.StepDone, impl.StepNew, impl.StepAlso, impl.StepFresh}

// noSteps are numbers that are no step, among them ones that become a step if their upper bits are lost.
func noSteps() []int {
	out := append([]int{0, 8, 9, -8, 16, 100}, farNumbers...)
	for _, step := range allSteps {
		out = append(out, -step, math.MinInt+step, math.MaxInt-step, 1<<8+step, 1<<16+step, 1<<32+step)
	}
	return out
}

// shookSteps are the steps of the handshake, by Way of this end and of the other one, written out from the specification's table.
var shookSteps = [5][5][]int{
	impl.WayNone: {{1}, {1, 2}, {1, 2}, {1}, {1}},
	impl.WayInit: {{}, {2}, {2, 3}, {3}, {3}},
	impl.WayTry:  {{}, {}, {4}, {4}, {4}},
}

func (m madeState) inFlight() bool {
	return strings.Contains(m.fates, "l")
}

// wantSteps are the steps that the specification permits, by what the states were made with.
func wantSteps(m, other madeState) []int {
	s, o := m.state, other.state
	switch s.Way {
	case impl.WayOpen:
		switch {
		case s.Ver == 9:
			return nil
		case o.Way == impl.WayFlush && o.Ver == s.Ver:
			return []int{5, 6}
		}
		return []int{5}
	case impl.WayFlush:
		along := o.Way == impl.WayFlush && o.Ver == s.Ver && !other.inFlight()
		if !m.inFlight() && (along || o.Ver == s.Ver+1) {
			return []int{7}
		}
		return nil
	}
	return shookSteps[s.Way][o.Way]
}

// wantDone is the state after a permitted step.
func wantDone(s impl.State, step int) impl.State {
	return changedState(s, func(s *impl.State) {
		switch step {
		case 1:
			s.Way = 1
		case 2:
			s.Way = 2
		case 3, 4:
			s.Way = 3
		case 5, 6:
			s.Way, s.Want = 4, s.Ver+1
		case 7:
			s.Way, s.Ver, s.Want = 3, s.Ver+1, 0
		}
	})
}

// endOf is a valid state of an end, whose packets are of its version.
func endOf(way, ver int, fates string) madeState {
	return makeState(way, ver, fates, variedPacket, func(int) int { return ver }, gotLists[0])
}

// endsWith has an end of each Way in each version, with each of these rows of fates.
func endsWith(fateRows []string) []madeState {
	var out []madeState
	for _, way := range ways {
		for ver := 1; ver <= 9; ver++ {
			if way == impl.WayFlush && ver == 9 {
				continue
			}
			for _, fates := range fateRows {
				vers := versionsOf(ver)[len(out)%4]
				out = append(out, makeState(way, ver, fates, variedPacket, vers, gotLists[len(out)%len(gotLists)]))
			}
		}
	}
	return out
}

// allEnds have packets in flight and none, as the only one, the first, the last, and as many as there can be.
func allEnds() []madeState {
	return endsWith([]string{"", "l", "db", "dbl", "ldb", "dbdbdbdb", "llllllll"})
}

// endPair is two ends, and a step that is permitted for the first one by the state of the other one.
type endPair struct {
	this, other madeState
	step        int
}

// permittedPairs has every step from each Way of both ends from which it is permitted, at the lowest and at the highest version.
func permittedPairs() []endPair {
	var out []endPair
	for _, fates := range []string{"", "db", "dbdbdbdb"} {
		for _, way := range []int{impl.WayInit, impl.WayTry} {
			out = append(out,
				endPair{endOf(impl.WayNone, 1, fates), endOf(way, 1, "l"), impl.StepTry},
				endPair{endOf(impl.WayInit, 1, fates), endOf(way, 1, "l"), impl.StepTry})
		}
		for _, way := range []int{impl.WayTry, impl.WayOpen, impl.WayFlush} {
			out = append(out,
				endPair{endOf(impl.WayInit, 1, fates), endOf(way, 1, "l"), impl.StepAck},
				endPair{endOf(impl.WayTry, 1, fates), endOf(way, 1, "l"), impl.StepDone})
		}
		for _, ver := range []int{1, 8} {
			for _, way := range ways {
				out = append(out,
					endPair{endOf(impl.WayNone, ver, fates), endOf(way, ver, "l"), impl.StepInit},
					endPair{endOf(impl.WayOpen, ver, fates), endOf(way, ver, "l"), impl.StepNew})
			}
			out = append(out,
				endPair{endOf(impl.WayOpen, ver, fates), endOf(impl.WayFlush, ver, "l"), impl.StepAlso},
				endPair{endOf(impl.WayFlush, ver, fates), endOf(impl.WayFlush, ver, "db"), impl.StepFresh},
				endPair{endOf(impl.WayFlush, ver, fates), endOf(impl.WayOpen, ver+1, "l"), impl.StepFresh})
		}
	}
	return out
}

// zeroState says whether a state is the zero value.
func zeroState(s impl.State) bool {
	return sameState(s, impl.State{})
}

// checkNoStep checks that a step is refused.
func checkNoStep(t *testing.T, name string, s, other impl.State, step int) {
	t.Helper()
	if impl.WayMay(s, other, step) {
		t.Errorf("%s: step %d permitted: %v, other end %v", name, step, s, other)
	}
	if got, ok := impl.WayDo(s, other, step); ok || !zeroState(got) {
		t.Errorf("%s: step %d gives %v, %v: %v, other end %v", name, step, got, ok, s, other)
	}
}

// checkNoEnds checks that no step is permitted with a state that is not valid.
func checkNoEnds(t *testing.T, name string, s, other impl.State) {
	t.Helper()
	for _, step := range allSteps {
		checkNoStep(t, name, s, other, step)
	}
	if next := impl.WayNext(s, other); len(next) != 0 {
		t.Errorf("%s: steps %v: %v, other end %v", name, next, s, other)
	}
}

// mustDo is the state after a step that must be permitted.
func mustDo(t *testing.T, s, other impl.State, step int) impl.State {
	t.Helper()
	got, ok := impl.WayDo(s, other, step)
	if !ok || !sameState(got, wantDone(s, step)) {
		t.Fatalf("step %d gives %v, %v: %v, other end %v", step, got, ok, s, other)
	}
	return got
}

// spoil overwrites all lists of a state up to their capacity, and tells whether Live and Back share memory.
func spoil(s impl.State) bool {
	w := wholeState(s)
	for i := range w.Sent {
		w.Sent[i] = alikePacket(777)
	}
	for i := range w.Back {
		w.Back[i] = false
	}
	for i := range w.Live {
		w.Live[i] = true
	}
	shared := slices.Contains(w.Back, true)
	for i := range w.Back {
		w.Back[i] = true
	}
	fill(w.Got, 777)
	return shared
}
