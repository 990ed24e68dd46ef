package tests

import (
	"slices"
	"testing"

	"loop.example/hawser/impl"
)

// checkCoins is what P73, P85 and P93 say of a run, however it has come about.
func checkCoins(t *testing.T, w impl.World) {
	t.Helper()
	for id := 1; id <= 2; id++ {
		locked := w.Chains[id-1].Bank.Locked
		if own, _ := impl.BankAll(w.Chains[id-1].Bank); own != 30 {
			t.Errorf("%d native coins of chain %d: %v", own, id, w)
		}
		if notes := impl.SumNotes(w, id); notes != locked || wantNotes(w, id) != locked {
			t.Errorf("%d coins of chain %d locked, and %d vouchers: %v", locked, id, notes, w)
		}
		if away := impl.SumAway(w, id, impl.CoinOwn); away > locked || away != wantAway(w, id, impl.CoinOwn) {
			t.Errorf("%d coins of chain %d locked, and %d in transit: %v", locked, id, away, w)
		}
		if away := impl.SumAway(w, 3-id, impl.CoinNote); away > locked || away > impl.SumNotes(w, id) || away != wantAway(w, 3-id, impl.CoinNote) {
			t.Errorf("%d coins of chain %d locked, and %d vouchers in transit: %v", locked, id, away, w)
		}
	}
	if users, away := allUsers(w), allAway(w); users+away != 60 {
		t.Errorf("users have %d, and %d are in transit: %v", users, away, w)
	}
}

// checkPlannedKeep is what P86 says: each planned event, alone, makes and loses no coin.
func checkPlannedKeep(t *testing.T, w impl.World, plan []impl.Event) {
	t.Helper()
	for _, e := range plan {
		got := impl.WorldDo(w, e)
		checkCoins(t, got)
		checkNeverBoth(t, got)
	}
}

// latest is the latest version that an end has or wants.
func latest(w impl.World) int {
	first, second := w.Chains[0].State, w.Chains[1].State
	return max(first.Ver, first.Want, second.Ver, second.Want)
}

// checkQuiet is what P91 says, round by round.
func checkQuiet(t *testing.T, w impl.World, rounds int) {
	t.Helper()
	for range rounds {
		calm := impl.WorldCalm(w, 1)
		for i, c := range w.Chains {
			s := calm.Chains[i].State
			if !slices.Equal(s.Sent, c.State.Sent) {
				t.Errorf("a quiet round sends %v: %v", s.Sent, w)
			}
		}
		none := w.Chains[0].State.Way == impl.WayNone && w.Chains[1].State.Way == impl.WayNone
		if latest(calm) > latest(w) || none && !sameButHeights(calm, w) {
			t.Errorf("a quiet round begins something: %v, then %v", w, calm)
		}
		for user := 1; user <= impl.UserMax; user++ {
			before, after := impl.SumUser(w, user), impl.SumUser(calm, user)
			for i := range before {
				if after[i] < before[i] {
					t.Errorf("user %d loses something in a quiet round: %v, then %v", user, before, after)
				}
			}
		}
		if allUsers(calm)+allAway(calm) != allUsers(w)+allAway(w) {
			t.Errorf("a quiet round makes or loses coins: %v, then %v", w, calm)
		}
		w = calm
	}
}

// tries are events of every kind on a chain, with what the other chain has sent by now.
func tries(w impl.World, id int) []impl.Event {
	c, other := w.Chains[id-1], w.Chains[2-id]
	out := []impl.Event{
		blockOn(id), knowOn(id, len(other.Past)), knowOn(id, len(other.Past)+1), moveOn(id, impl.CoinOwn, 1, 2, 1),
		sendOn(id, sending{impl.CoinOwn, 2, 1, 1, 90}), sendOn(id, sending{impl.CoinNote, 2, 1, 1, 90}),
	}
	heights := []int{len(other.Past)}
	if len(c.Knows) > 0 {
		heights = append(heights, slices.Max(c.Knows))
	}
	for _, height := range slices.Compact(heights) {
		for _, step := range allSteps {
			out = append(out, stepOn(id, height, step))
		}
		for _, p := range other.State.Sent {
			out = append(out, getOn(id, height, p))
		}
		for seq := range c.State.Sent {
			out = append(out, tellOn(id, height, seq+1), lateOn(id, height, seq+1))
		}
	}
	return out
}

// checkOther is what P92 says: an event on one chain, unless it ends a height, makes no difference to what the other one can know and do.
func checkOther(t *testing.T, before, after impl.World, e impl.Event) {
	t.Helper()
	if e.Kind == impl.EvBlock || sameWorld(before, after) {
		return
	}
	id := 3 - e.Chain
	for _, f := range tries(after, id) {
		without, behind := impl.WorldDo(before, f).Chains[id-1], impl.WorldDo(after, f).Chains[id-1]
		if !sameChain(without, behind) {
			t.Errorf("%+v gives %v, but behind %+v %v", f, without, e, behind)
		}
	}
	if plan := impl.SumPlan(after, id); !slices.Equal(plan, impl.SumPlan(before, id)) {
		t.Errorf("%+v changes the plan of the other chain to %v", e, plan)
	}
}

// without are the events of all other kinds.
func without(events []impl.Event, kinds ...int) []impl.Event {
	return slices.DeleteFunc(slices.Clone(events), func(e impl.Event) bool { return slices.Contains(kinds, e.Kind) })
}

// eachAfter calls a function with the run after each of the events, from WorldNew on.
func eachAfter(t *testing.T, events []impl.Event, each func(w impl.World)) {
	t.Helper()
	w := impl.WorldNew()
	each(w)
	for i, e := range events {
		w = impl.WorldDo(w, e)
		each(w)
		if t.Failed() {
			t.Fatalf("after %+v", events[:i+1])
		}
	}
}

// restingWorlds are runs after drawn events and a quiet period, with an open channel and heights left for another period.
func restingWorlds(from, to int) []impl.World {
	var out []impl.World
	for seed := from; seed < to; seed++ {
		_, events := drawRun(seed, showNothing)
		w, _ := impl.WorldPlay(events[:impl.PlayMax-seed%3*15])
		if w = impl.WorldCalm(w, 16); w.Chains[0].State.Way == impl.WayOpen {
			out = append(out, w)
		}
	}
	return out
}

// richest is a user with the most coins of a kind on a chain, and how many of them one packet can take.
func richest(c impl.Chain, kind int) (int, int) {
	best := 1
	for user := 1; user <= impl.UserMax; user++ {
		if amount(c.Bank, kind, user) > amount(c.Bank, kind, best) {
			best = user
		}
	}
	return best, min(amount(c.Bank, kind, best), 9)
}

// sendable calls a function with everything of a kind that a chain can send to a user, or to nobody: one coin, and as many as one packet takes.
func sendable(w impl.World, id, kind int, each func(x sending)) {
	c := w.Chains[id-1]
	from, most := richest(c, kind)
	for to := 0; to <= impl.UserMax; to++ {
		for _, sum := range []int{1, most} {
			if x := (sending{kind, from, to, sum, impl.HeightMax}); x.wantSent(c) {
				each(x)
			}
		}
	}
}

// arrived is a run's banks after a packet has come.
func arrived(w impl.World, id int, x sending) []impl.Bank {
	banks := []impl.Bank{w.Chains[0].Bank, w.Chains[1].Bank}
	if x.to == 0 {
		return banks
	}
	own, other := &banks[id-1], &banks[2-id]
	*own = with(*own, x.kind, x.from, -x.sum)
	if x.kind == impl.CoinOwn {
		*own, *other = withLocked(*own, x.sum), with(*other, impl.CoinNote, x.to, x.sum)
	} else {
		*other = withLocked(with(*other, impl.CoinOwn, x.to, x.sum), -x.sum)
	}
	return banks
}

// checkBanks checks the banks of a run.
func checkBanks(t *testing.T, name string, w impl.World, want []impl.Bank) {
	t.Helper()
	for i, c := range w.Chains {
		if !sameBank(c.Bank, want[i]) {
			t.Errorf("%s: chain %d has %v, not %v", name, i+1, c.Bank, want[i])
		}
	}
}

// checkRest checks that nothing is left to do in a run, and that the ends of a channel that was begun are open in one version.
func checkRest(t *testing.T, w impl.World, begun bool) {
	t.Helper()
	if !wantSettledAll(w) || !impl.SumDone(w) || allAway(w) != 0 {
		t.Errorf("not settled: %v", w)
	}
	first, second := w.Chains[0].State, w.Chains[1].State
	way := impl.WayNone
	if begun {
		way = impl.WayOpen
	}
	if first.Way != way || second.Way != way || first.Ver != second.Ver {
		t.Errorf("Way %d in version %d, and Way %d in version %d", first.Way, first.Ver, second.Way, second.Ver)
	}
	checkCoins(t, w)
}
