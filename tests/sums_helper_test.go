package tests

import (
	"slices"
	"testing"

	"loop.example/hawser/impl"
)

// noCoinKinds are numbers that are no kind of coins, and noUserNumbers those that are no user.
var (
	noCoinKinds   = append(slices.Clone(noKinds), farNumbers...)
	noUserNumbers = append(slices.Clone(noUsers), farNumbers...)
)

// wantAway is what SumAway must give of a valid run, written out from the specification.
func wantAway(w impl.World, id, kind int) int {
	c, other, sum := w.Chains[id-1].State, w.Chains[2-id].State, 0
	for i, p := range c.Sent {
		if c.Live[i] && other.Got[i] != 1 && p.Kind == kind {
			sum += p.Sum
		}
	}
	return sum
}

// wantNotes is what SumNotes must give of a valid run.
func wantNotes(w impl.World, id int) int {
	return total(w.Chains[2-id].Bank.Notes) + wantAway(w, id, 1) + wantAway(w, 3-id, 2)
}

// wantUser is what SumUser must give of a valid run and a user.
func wantUser(w impl.World, user int) []int {
	first, second := w.Chains[0].Bank, w.Chains[1].Bank
	return []int{first.Own[user-1], first.Notes[user-1], second.Own[user-1], second.Notes[user-1]}
}

// wantPlan is what SumPlan must give of a valid run.
func wantPlan(w impl.World, id int) []impl.Event {
	c, other := w.Chains[id-1], w.Chains[2-id]
	if len(c.Knows) == 0 {
		return nil
	}
	height := slices.Max(c.Knows)
	shown := other.Past[height-1]
	var out []impl.Event
	for _, p := range shown.Sent {
		if wantGet(c, shown, p) {
			out = append(out, getOn(id, height, p))
		}
	}
	for seq := 1; seq <= len(c.State.Sent); seq++ {
		if wantTell(c, shown, seq) {
			out = append(out, tellOn(id, height, seq))
		}
		if wantLate(c, shown, height, seq) {
			out = append(out, lateOn(id, height, seq))
		}
	}
	return out
}

// wantSettledAll says whether SumDone must hold of a valid run.
func wantSettledAll(w impl.World) bool {
	return !slices.Contains(w.Chains[0].State.Live, true) && !slices.Contains(w.Chains[1].State.Live, true)
}

// allAway is the total of coins in transit of a run.
func allAway(w impl.World) int {
	sum := 0
	for id := 1; id <= 2; id++ {
		for _, kind := range bankKinds {
			sum += impl.SumAway(w, id, kind)
		}
	}
	return sum
}

// allUsers is the total of what users of a run have.
func allUsers(w impl.World) int {
	sum := 0
	for user := 1; user <= impl.UserMax; user++ {
		sum += total(impl.SumUser(w, user))
	}
	return sum
}

// checkSums checks what each function but SumPlan gives of a valid run.
func checkSums(t *testing.T, w impl.World) {
	t.Helper()
	before, coins := copyWorld(w), 0
	for id := 1; id <= 2; id++ {
		for _, kind := range bankKinds {
			if got, want := impl.SumAway(w, id, kind), wantAway(before, id, kind); got != want {
				t.Errorf("of chain %d and kind %d in transit: %d, not %d: %v", id, kind, got, want, before)
			}
		}
		if got, want := impl.SumNotes(w, id), wantNotes(before, id); got != want {
			t.Errorf("vouchers for coins of chain %d: %d, not %d: %v", id, got, want, before)
		}
		own, notes := impl.BankAll(w.Chains[id-1].Bank)
		coins += own - w.Chains[id-1].Bank.Locked + notes
	}
	for user := 1; user <= impl.UserMax; user++ {
		if got, want := impl.SumUser(w, user), wantUser(before, user); !slices.Equal(got, want) {
			t.Errorf("user %d: %v, not %v: %v", user, got, want, before)
		}
	}
	if got := allUsers(w); got != coins {
		t.Errorf("all users: %d, not %d: %v", got, coins, before)
	}
	if got, want := impl.SumDone(w), wantSettledAll(before); got != want || got && allAway(w) != 0 {
		t.Errorf("SumDone gives %v with %d in transit: %v", got, allAway(w), before)
	}
	if !sameWorld(w, before) {
		t.Errorf("argument changed: %v", before)
	}
}

// plannable are events that relay to a chain by a height, whether they have an effect or not: all that SumPlan may have, and others.
func plannable(w impl.World, id, height int) []impl.Event {
	other := w.Chains[2-id]
	packets := slices.Clone(other.State.Sent)
	for _, s := range other.Past {
		packets = append(packets, s.Sent...)
	}
	slices.SortFunc(packets, func(p, q impl.Packet) int { return p.Seq - q.Seq })
	var out []impl.Event
	for _, p := range slices.Compact(packets) {
		out = append(out, getOn(id, height, p), getOn(id, height, changed(p, packetFields[4], p.Sum%9+1)))
	}
	for seq := -1; seq <= impl.SeqMax+1; seq++ {
		out = append(out, tellOn(id, height, seq), lateOn(id, height, seq))
	}
	return out
}

// checkPlan checks what SumPlan gives of a valid run, and returns it.
func checkPlan(t *testing.T, w impl.World, id int) []impl.Event {
	t.Helper()
	before := copyWorld(w)
	plan := impl.SumPlan(w, id)
	if want := wantPlan(before, id); !slices.Equal(plan, want) {
		t.Fatalf("the plan for chain %d is %v, not %v: %v", id, plan, want, before)
	}
	end := w
	for _, e := range plan {
		if sameWorld(impl.WorldDo(w, e), w) {
			t.Errorf("%+v is planned, but has no effect: %v", e, before)
		}
		end = impl.WorldDo(end, e)
	}
	if rest := impl.SumPlan(end, id); len(rest) != 0 {
		t.Errorf("%v is planned still for chain %d, after %v: %v", rest, id, plan, before)
	}
	if knows := w.Chains[id-1].Knows; len(knows) > 0 {
		checkAllPlanned(t, w, plannable(w, id, slices.Max(knows)), plan)
	}
	if !sameWorld(w, before) {
		t.Errorf("argument changed: %v", before)
	}
	return plan
}

// checkAllPlanned checks that of these events exactly those are planned that have an effect.
func checkAllPlanned(t *testing.T, w impl.World, events, plan []impl.Event) {
	t.Helper()
	for _, e := range events {
		if planned := slices.Contains(plan, e); planned == sameWorld(impl.WorldDo(w, e), w) {
			t.Errorf("%+v is planned: %v: %v", e, planned, w)
		}
	}
}

// nearPacket has a timeout that is as near as its number is low.
func nearPacket(seq int) impl.Packet {
	return impl.Packet{Seq: seq, Kind: 1 + seq%2, From: 1 + seq%3, To: seq % 4, Sum: 1 + seq, Until: 2 + seq, Ver: 1}
}

// nearState has such packets with these fates, and these entries of Got.
func nearState(way, ver int, fates string, got []int) impl.State {
	return makeState(way, ver, fates, nearPacket, func(int) int { return 1 }, got).state
}

// shownStates are those of another chain at its heights, each with other packets in flight and other entries of Got.
func shownStates() []impl.State {
	return []impl.State{
		nearState(impl.WayNone, 1, "", gotLists[0]),
		nearState(impl.WayOpen, 1, "llll", gotLists[0]),
		nearState(impl.WayOpen, 1, "dlbl", gotLists[4]),
		nearState(impl.WayOpen, 1, "llllllll", gotLists[3]),
		nearState(impl.WayFlush, 1, "bbllddll", gotLists[2]),
		nearState(impl.WayOpen, 2, "lbdlllbd", gotLists[0]),
		nearState(impl.WayFlush, 2, "dbdbdbdb", gotLists[1]),
		nearState(impl.WayOpen, 3, "bbbbbbbl", gotLists[3]),
	}
}

// planWorlds are runs in which the chain with this number knows some of the heights of the other one, at each of which something else can be relayed.
func planWorlds(id int) []impl.World {
	var out []impl.World
	knows := [][]int{{2}, {8}, {1, 4}, {1}, {3, 6}, {2, 3}, {5}, {4, 7}, countedTo(8), nil}
	for _, way := range ways {
		for _, fates := range []string{"llllllll", "ldbl", "", "dlll"} {
			for _, known := range knows {
				n := len(out)
				got, ver, heights := gotLists[(n+n/10)%5], 1+n/3%2, []int{0, 1, 3, 5}[n/7%4]
				c := chainOf(id, someBanks[n%len(someBanks)], nearState(way, ver, fates, got), heights, known)
				other := chainOf(3-id, someBanks[1], nearState(impl.WayOpen, 3, "lldb", gotLists[n%2]), 0, countedTo(heights/2))
				other.Past = shownStates()
				out = append(out, facing(c, other))
			}
		}
	}
	return out
}

// facing is the run of a chain and the other one, in the order of their numbers.
func facing(c, other impl.Chain) impl.World {
	if c.Id == 1 {
		return worldOf(c, other)
	}
	return worldOf(other, c)
}

// checkNoSums checks that a run is refused by every function, for chains, kinds and users that there are and others.
func checkNoSums(t *testing.T, name string, w impl.World) {
	t.Helper()
	for n := 0; n <= 4; n++ {
		for kind := 0; kind <= 3; kind++ {
			if got := impl.SumAway(w, n, kind); got != -1 {
				t.Errorf("%s: SumAway of chain %d and kind %d gives %d", name, n, kind, got)
			}
		}
		if got := impl.SumNotes(w, n); got != -1 {
			t.Errorf("%s: SumNotes of chain %d gives %d", name, n, got)
		}
		if got := impl.SumUser(w, n); len(got) != 0 {
			t.Errorf("%s: SumUser of %d gives %v", name, n, got)
		}
		if got := impl.SumPlan(w, n); len(got) != 0 {
			t.Errorf("%s: SumPlan of chain %d gives %v", name, n, got)
		}
	}
	if impl.SumDone(w) {
		t.Errorf("%s: SumDone holds", name)
	}
}
