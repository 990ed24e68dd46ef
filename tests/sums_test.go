package tests

import (
	"fmt"
	"slices"
	"strings"
	"testing"

	"loop.example/hawser/impl"
)

// P78, P79, P80, P84: runs of every kind.
func TestSumsOfMadeWorlds(t *testing.T) {
	for _, w := range slices.Concat(madeWorlds(), planWorlds(1), planWorlds(2)) {
		checkSums(t, w)
	}
}

// P78, P79, P84: each fate of a packet with each entry of Got for it, of either kind, with each number, on both chains.
func TestSumsOfEachFate(t *testing.T) {
	for id := 1; id <= 2; id++ {
		for seq := 1; seq <= impl.SeqMax; seq++ {
			for _, fate := range []string{"l", "d", "b"} {
				for _, got := range gots {
					checkFate(t, id, seq, fate, got)
				}
			}
		}
	}
}

// checkFate checks what is in transit if a packet of either kind is the only one that can be.
func checkFate(t *testing.T, id, seq int, fate string, got int) {
	t.Helper()
	sum := 0
	if fate == "l" && got != impl.GotOk {
		sum = 1 + seq
	}
	for _, kind := range bankKinds {
		s := nearState(impl.WayOpen, 1, strings.Repeat("d", seq-1)+fate, gotLists[0])
		o := impl.StateNew()
		s.Sent[seq-1].Kind, o.Got[seq-1] = kind, got
		w := facing(madeChain(id, impl.BankNew(), s, 0, nil), madeChain(3-id, impl.BankNew(), o, 0, nil))
		if away := impl.SumAway(w, id, kind); away != sum || allAway(w) != sum || impl.SumDone(w) != (fate != "l") {
			t.Errorf("packet %d of chain %d and kind %d: %s, Got %d: %d of %d in transit, done %v", seq, id, kind, fate, got, away, allAway(w), impl.SumDone(w))
		}
		at := id
		if kind == impl.CoinNote {
			at = 3 - id
		}
		if impl.SumNotes(w, at) != sum || impl.SumNotes(w, 3-at) != 0 {
			t.Errorf("packet %d of chain %d and kind %d: %s, Got %d: vouchers %d and %d", seq, id, kind, fate, got, impl.SumNotes(w, 1), impl.SumNotes(w, 2))
		}
	}
}

// P78: as many packets as a chain can send, each with the most coins.
func TestSumsOfMostCoins(t *testing.T) {
	s := endOf(impl.WayOpen, 1, "llllllll").state
	for i := range s.Sent {
		s.Sent[i] = impl.Packet{Seq: i + 1, Kind: 1 + i/6, From: 1, To: 2, Sum: 9, Until: 90, Ver: 1}
	}
	w := worldOf(madeChain(1, someBanks[3], s, 1, nil), madeChain(2, someBanks[2], s, 1, nil))
	for id := 1; id <= 2; id++ {
		if impl.SumAway(w, id, impl.CoinOwn) != 54 || impl.SumAway(w, id, impl.CoinNote) != 18 || impl.SumNotes(w, id) != 30+54+18 {
			t.Error(id, impl.SumAway(w, id, impl.CoinOwn), impl.SumAway(w, id, impl.CoinNote), impl.SumNotes(w, id))
		}
	}
}

// sums are what is in transit of each kind from chain 1 and from chain 2, and the vouchers for coins of each.
type sums struct {
	away1, away2   [2]int
	notes1, notes2 int
	done           bool
}

func sumsOf(w impl.World) sums {
	return sums{
		[2]int{impl.SumAway(w, 1, impl.CoinOwn), impl.SumAway(w, 1, impl.CoinNote)},
		[2]int{impl.SumAway(w, 2, impl.CoinOwn), impl.SumAway(w, 2, impl.CoinNote)},
		impl.SumNotes(w, 1), impl.SumNotes(w, 2), impl.SumDone(w),
	}
}

// checkSumsOf checks what is in transit at a point of a run that has come about by events.
func checkSumsOf(t *testing.T, name string, w impl.World, want sums) {
	t.Helper()
	if got := sumsOf(w); got != want {
		t.Errorf("%s: %v, not %v: %v", name, got, want, w)
	}
	checkSums(t, w)
	checkCoins(t, w)
}

// P78, P79, P84: coins that are sent, come, and are told; then vouchers for some of them on the way back.
func TestSumsWhatCame(t *testing.T) {
	w := changes(t, openWorld(t), sendOn(1, sending{1, 1, 2, 7, 50}))
	checkSumsOf(t, "sent", w, sums{away1: [2]int{7, 0}, notes1: 7})
	w = changes(t, w, blockOn(1), knowOn(2, 3), getOn(2, 3, w.Chains[0].State.Sent[0]))
	checkSumsOf(t, "received and not told", w, sums{notes1: 7})
	w = changes(t, w, blockOn(2), knowOn(1, 2), tellOn(1, 2, 1))
	checkSumsOf(t, "told", w, sums{notes1: 7, done: true})

	w = changes(t, w, sendOn(2, sending{2, 2, 3, 4, 50}))
	checkSumsOf(t, "vouchers sent back", w, sums{away2: [2]int{0, 4}, notes1: 7})
	w = changes(t, w, blockOn(2), knowOn(1, 3), getOn(1, 3, w.Chains[1].State.Sent[0]))
	checkSumsOf(t, "vouchers received and not told", w, sums{notes1: 3})
	w = changes(t, w, blockOn(1), knowOn(2, 4), tellOn(2, 4, 1))
	checkSumsOf(t, "vouchers told", w, sums{notes1: 3, done: true})
	if !sameBank(w.Chains[0].Bank, bank([]int{3, 10, 14}, []int{0, 0, 0}, 3)) || !sameBank(w.Chains[1].Bank, bank([]int{10, 10, 10}, []int{0, 3, 0}, 0)) {
		t.Error(w)
	}
}

// P78, P79, P84: a packet that was rejected is in transit until that is told; one that is refunded is not.
func TestSumsWhatWasRejected(t *testing.T) {
	w := changes(t, openWorld(t), sendOn(1, sending{1, 3, 0, 9, 50}), blockOn(1), knowOn(2, 3))
	w = changes(t, w, getOn(2, 3, w.Chains[0].State.Sent[0]))
	checkSumsOf(t, "rejected and not told", w, sums{away1: [2]int{9, 0}, notes1: 9})
	w = changes(t, w, blockOn(2), knowOn(1, 2))
	checkSumsOf(t, "rejected and known, but not told", w, sums{away1: [2]int{9, 0}, notes1: 9})
	w = changes(t, w, tellOn(1, 2, 1))
	checkSumsOf(t, "rejected and told", w, sums{done: true})
}

// P78, P79, P84: a packet that is late is in transit until it is refunded.
func TestSumsWhatIsLate(t *testing.T) {
	w := changes(t, openWorld(t), sendOn(2, sending{1, 1, 1, 2, 3}), blockOn(1), blockOn(1))
	checkSumsOf(t, "late", w, sums{away2: [2]int{2, 0}, notes2: 2})
	w = changes(t, w, knowOn(2, 3))
	checkSumsOf(t, "known to be late", w, sums{away2: [2]int{2, 0}, notes2: 2})
	w = changes(t, w, lateOn(2, 3, 1))
	checkSumsOf(t, "refunded", w, sums{done: true})
}

// P80: each user of amounts that all differ.
func TestSumUser(t *testing.T) {
	w := worldOf(
		chainOf(1, bank([]int{1, 2, 3}, []int{4, 5, 6}, 24), impl.StateNew(), 2, nil),
		chainOf(2, bank([]int{7, 8, 9}, []int{10, 11, 0}, 6), impl.StateNew(), 2, nil))
	want := [][]int{{1, 4, 7, 10}, {2, 5, 8, 11}, {3, 6, 9, 0}}
	for i, amounts := range want {
		if got := impl.SumUser(w, i+1); !slices.Equal(got, amounts) {
			t.Error(i+1, got)
		}
	}
	for _, user := range noUserNumbers {
		if got := impl.SumUser(w, user); len(got) != 0 {
			t.Error(user, got)
		}
	}
	if got := impl.SumUser(impl.WorldNew(), impl.UserMax); !slices.Equal(got, []int{10, 0, 10, 0}) {
		t.Error(got)
	}
}

// P84: packets in flight on neither chain, on one, and on both.
func TestSumDone(t *testing.T) {
	rows := []string{"", "d", "b", "dbdbdbdb", "l", "dbl", "ldbdbdbd", "llllllll"}
	for i, first := range rows {
		for j, second := range rows {
			for _, way := range ways {
				w := worldOf(madeChain(1, impl.BankNew(), endOf(way, 1, first).state, 1, nil), madeChain(2, impl.BankNew(), endOf(impl.WayOpen, 2, second).state, 1, nil))
				live := len(impl.StateLive(w.Chains[0].State)) + len(impl.StateLive(w.Chains[1].State))
				if done := impl.SumDone(w); done != (i < 4 && j < 4) || done != (live == 0) {
					t.Error(first, second, way, done)
				}
				checkSums(t, w)
			}
		}
	}
}

// P78, P79, P81: chains and kinds that there are, and those that there are not.
func TestSumsUnknownNumbers(t *testing.T) {
	w := unknownWorld(t)
	w = changes(t, w, knowOn(1, 6))
	for id := 1; id <= 2; id++ {
		for kind := 0; kind <= 3; kind++ {
			if got := impl.SumAway(w, id, kind); got == -1 != (kind == 0 || kind == 3) {
				t.Error(id, kind, got)
			}
		}
		for _, kind := range noCoinKinds {
			if got := impl.SumAway(w, id, kind); got != -1 {
				t.Error(id, kind, got)
			}
		}
	}
	for _, id := range noIds {
		for _, kind := range append([]int{1, 2}, noCoinKinds...) {
			if got := impl.SumAway(w, id, kind); got != -1 {
				t.Error(id, kind, got)
			}
		}
		if got := impl.SumNotes(w, id); got != -1 {
			t.Error(id, got)
		}
		if got := impl.SumPlan(w, id); len(got) != 0 {
			t.Error(id, got)
		}
	}
}

// General rules: each thing in turn that makes a run invalid.
func TestSumsOfInvalidWorlds(t *testing.T) {
	for i, w := range madeWorlds() {
		if i%9 != 0 && i < 99 {
			continue
		}
		for _, bad := range invalidWorlds(w) {
			checkNoSums(t, bad.name, bad.world)
		}
	}
}

// General rules: one chain that is not valid, the other one valid.
func TestSumsOfInvalidChain(t *testing.T) {
	w := worldOf(fewChains()[2], changedChain(fewChains()[1], func(c *impl.Chain) { c.Knows = []int{3} }))
	w.Chains[0].Knows = []int{1}
	if impl.SumNotes(w, 1) < 0 || impl.SumNotes(w, 2) < 0 {
		t.Fatal("wrong case", w)
	}
	for _, bad := range invalidParts(w) {
		checkNoSums(t, bad.name, bad.world)
	}
}

// P81, P82, P83: runs of every kind.
func TestSumPlanOfMadeWorlds(t *testing.T) {
	planned := map[int]int{}
	for _, w := range madeWorlds() {
		for id := 1; id <= 2; id++ {
			for _, e := range checkPlan(t, w, id) {
				planned[e.Kind]++
			}
		}
	}
	if planned[impl.EvGet] < 20 || planned[impl.EvTell] < 20 || planned[impl.EvLate] < 10 {
		t.Error("too few cases", planned)
	}
}

// P81, P82, P83: each height of the other chain as the last known one, with something else to relay at each.
func TestSumPlanByEachHeight(t *testing.T) {
	planned := map[string]int{}
	for id := 1; id <= 2; id++ {
		for _, w := range planWorlds(id) {
			kinds := map[int]bool{}
			for _, e := range checkPlan(t, w, id) {
				kinds[e.Kind] = true
				planned[fmt.Sprint("kind ", e.Kind)]++
				planned[fmt.Sprint("height ", e.Height)]++
			}
			planned[fmt.Sprint("kinds ", len(kinds))]++
			checkPlan(t, w, 3-id)
		}
	}
	for _, name := range []string{"kind 4", "kind 5", "kind 6", "height 2", "height 3", "height 4", "height 5", "height 6", "height 7", "height 8", "kinds 0", "kinds 1", "kinds 2", "kinds 3"} {
		if planned[name] < 4 {
			t.Error("too few cases:", name, planned)
		}
	}
}

// mixedWorld has, for chain 1 by height 2 of chain 2, two packets to receive, one to tell as received, one as rejected, and two that are late.
func mixedWorld() impl.World {
	p := func(seq, kind, until int) impl.Packet {
		return impl.Packet{Seq: seq, Kind: kind, From: 1, To: 2, Sum: seq, Until: until, Ver: 1}
	}
	first, second := endOf(impl.WayOpen, 1, "lllldl").state, endOf(impl.WayOpen, 1, "lldll").state
	first.Sent = []impl.Packet{p(1, 1, 2), p(2, 1, 50), p(3, 2, 1), p(4, 1, 2), p(5, 1, 2), p(6, 1, 3)}
	first.Got = []int{0, 0, 0, 1, 0, 0, 0, 0}
	second.Sent = []impl.Packet{p(1, 1, 9), p(2, 2, 9), p(3, 1, 9), p(4, 1, 9), p(5, 1, 2)}
	second.Got = []int{0, 1, 0, 2, 0, 0, 0, 0}
	b := bank([]int{6, 6, 6}, []int{4, 4, 4}, 12)
	return worldOf(madeChain(1, b, first, 3, []int{1, 2}), madeChain(2, b, second, 2, nil))
}

// P81, P82: packets that can be received, told and refunded at once, in the order of the document.
func TestSumPlanOrder(t *testing.T) {
	w := mixedWorld()
	sent := w.Chains[1].State.Sent
	want := []impl.Event{getOn(1, 2, sent[0]), getOn(1, 2, sent[1]), lateOn(1, 2, 1), tellOn(1, 2, 2), lateOn(1, 2, 3), tellOn(1, 2, 4)}
	if got := checkPlan(t, w, 1); !slices.Equal(got, want) {
		t.Error(got)
	}
	if got := checkPlan(t, w, 2); len(got) != 0 {
		t.Error(got)
	}
}

// P81, P82: the state at the last known height counts, and not that of now, nor a later height that is not known.
func TestSumPlanGoesByLastKnownHeight(t *testing.T) {
	w := mixedWorld()
	later := changedWorld(w, func(w *impl.World) {
		c := &w.Chains[1]
		c.State.Live = make([]bool, 5)
		c.State.Got = slices.Clone(gotLists[1])
		c.Past = append(c.Past, copyState(c.State), copyState(c.State))
	})
	if got := checkPlan(t, later, 1); !slices.Equal(got, checkPlan(t, w, 1)) || len(got) != 6 {
		t.Error(got)
	}
	known := mustChange(t, later, knowOn(1, 4))
	want := []impl.Event{tellOn(1, 4, 1), tellOn(1, 4, 2), tellOn(1, 4, 3), tellOn(1, 4, 4), tellOn(1, 4, 6)}
	if got := checkPlan(t, known, 1); !slices.Equal(got, want) {
		t.Error(got)
	}
	earlier := changedWorld(w, func(w *impl.World) {
		w.Chains[0].Knows = []int{1}
		w.Chains[1].Past[0] = copyState(impl.StateNew())
	})
	if got := checkPlan(t, earlier, 1); !slices.Equal(got, []impl.Event{lateOn(1, 1, 3)}) {
		t.Error(got)
	}
}

// P81: with no known height nothing is planned, whatever could be relayed.
func TestSumPlanWithoutKnownHeight(t *testing.T) {
	w := mixedWorld()
	for _, knows := range [][]int{nil, {}} {
		none := changedWorld(w, func(w *impl.World) { w.Chains[0].Knows = knows })
		if got := checkPlan(t, none, 1); len(got) != 0 {
			t.Error(got)
		}
	}
	for id := 1; id <= 2; id++ {
		if got := impl.SumPlan(impl.WorldNew(), id); len(got) != 0 {
			t.Error(got)
		}
	}
}

// P81, P82: a plan by the last height that there may be.
func TestSumPlanAtLastHeight(t *testing.T) {
	w := fullWorld()
	for id := 1; id <= 2; id++ {
		plan := checkPlan(t, w, id)
		if len(plan) == 0 || plan[0].Height != impl.HeightMax {
			t.Error(id, plan)
		}
	}
}

// P82, P83: what is planned while the channel is being upgraded and in another version.
func TestSumPlanByWay(t *testing.T) {
	for _, way := range ways {
		for ver := 1; ver <= 2; ver++ {
			w := changedWorld(mixedWorld(), func(w *impl.World) {
				s := &w.Chains[0].State
				s.Way, s.Ver = way, ver
				if way == impl.WayFlush {
					s.Want = ver + 1
				}
			})
			gets := 0
			if way >= impl.WayOpen && ver == 1 {
				gets = 2
			}
			if got := checkPlan(t, w, 1); len(got) != gets+4 {
				t.Error(way, ver, got)
			}
		}
	}
}

// P81, P83: packets that can each be paid alone, but not all of them, are all planned; what is not paid is rejected, which is an effect, too.
func TestSumPlanOfEachEventAlone(t *testing.T) {
	w := changedWorld(mixedWorld(), func(w *impl.World) {
		w.Chains[0].Bank = bank([]int{10, 10, 7}, []int{0, 0, 0}, 3)
		w.Chains[0].State = endOf(impl.WayOpen, 1, "").state
		for i := range w.Chains[1].Past[1].Sent {
			w.Chains[1].Past[1].Sent[i].Kind, w.Chains[1].Past[1].Sent[i].Sum = impl.CoinNote, 2
		}
	})
	plan := checkPlan(t, w, 1)
	if len(plan) != 3 {
		t.Fatal(plan)
	}
	for _, e := range plan {
		if got := impl.WorldDo(w, e); got.Chains[0].State.Got[e.Packet.Seq-1] != impl.GotOk {
			t.Error(e, got)
		}
	}
	w = impl.WorldDo(w, plan[0])
	if rest := checkPlan(t, w, 1); !slices.Equal(rest, plan[1:]) {
		t.Error(rest)
	}
	if got := impl.WorldDo(w, plan[1]); got.Chains[0].State.Got[plan[1].Packet.Seq-1] != impl.GotBad {
		t.Error(got)
	}
}

// General rules: arguments stay as they are, nothing beyond the length of their lists is looked at, and results share no memory.
func TestSumsMemory(t *testing.T) {
	for i, made := range slices.Concat(madeWorlds(), planWorlds(1), planWorlds(2)) {
		if i%7 != 0 {
			continue
		}
		w := roomyWorld(made)
		before := copyWorld(wholeWorld(w))
		lists := [][]any{worldPlaces(w)}
		for range 2 {
			for n := 1; n <= 3; n++ {
				amounts, plan := impl.SumUser(w, n), impl.SumPlan(w, n)
				if !slices.Equal(amounts, impl.SumUser(made, n)) || !slices.Equal(plan, impl.SumPlan(made, n)) {
					t.Errorf("SumUser or SumPlan depends on what is beyond a list: %v, %v", amounts, plan)
				}
				lists = append(lists, places(amounts), places(plan))
				fill(amounts, 555)
				for j := range plan {
					plan[j] = impl.Event{Kind: 555}
				}
			}
		}
		if sumsOf(w) != sumsOf(made) {
			t.Errorf("sums depend on what is beyond a list: %v, %v", sumsOf(w), sumsOf(made))
		}
		checkPlaces(t, "results", lists...)
		if !sameWorld(wholeWorld(w), before) {
			t.Errorf("argument changed: %v", made)
		}
	}
}

// General rules: an empty list may be nil or not.
func TestSumsEmptyLists(t *testing.T) {
	empty := impl.WorldNew()
	for i := range empty.Chains {
		c := &empty.Chains[i]
		c.Past, c.Knows, c.State.Sent, c.State.Live, c.State.Back = []impl.State{}, []int{}, []impl.Packet{}, []bool{}, []bool{}
	}
	for _, w := range []impl.World{empty, impl.WorldNew()} {
		checkSums(t, w)
		if sumsOf(w) != (sums{done: true}) || len(checkPlan(t, w, 1))+len(checkPlan(t, w, 2)) != 0 {
			t.Error(sumsOf(w))
		}
	}
}

// General rules: functions keep no state, and give the same at the same time.
func TestSumsNoState(t *testing.T) {
	worlds := planWorlds(2)
	var want []string
	tell := func(w impl.World) string {
		return fmt.Sprint(sumsOf(w), impl.SumUser(w, 1), impl.SumUser(w, 3), impl.SumPlan(w, 1), impl.SumPlan(w, 2))
	}
	for _, w := range worlds {
		want = append(want, tell(w))
	}
	done := make(chan int)
	for range 4 {
		go func() {
			wrong := 0
			for i, w := range worlds {
				if tell(w) != want[i] {
					wrong++
				}
			}
			done <- wrong
		}()
	}
	for range 4 {
		if wrong := <-done; wrong != 0 {
			t.Error("not the same again:", wrong)
		}
	}
}
