package tests

import (
	"fmt"
	"math"
	"slices"
	"testing"

	"loop.example/hawser/impl"
)

// WorldNew is of both chains at the beginning.
func TestWorldNew(t *testing.T) {
	first, _ := impl.ChainNew(1)
	second, _ := impl.ChainNew(2)
	w := impl.WorldNew()
	if !sameWorld(w, worldOf(first, second)) || !impl.WorldOk(w) {
		t.Error(w)
	}
	checkPlaces(t, "WorldNew", worldPlaces(w), worldPlaces(impl.WorldNew()))
	spoilWorld(w)
	if !sameWorld(impl.WorldNew(), worldOf(first, second)) {
		t.Error("WorldNew keeps a state")
	}
}

// P62: valid runs, with as many heights known as there are, and fewer.
func TestWorldOk(t *testing.T) {
	for _, w := range madeWorlds() {
		if !impl.WorldOk(w) {
			t.Error("refused", w)
		}
	}
	for first := 0; first <= impl.HeightMax; first += 15 {
		for second := 0; second <= impl.HeightMax; second += 15 {
			w := worldOf(
				chainOf(1, someBanks[1], impl.StateNew(), first, countedTo(second)),
				chainOf(2, someBanks[2], impl.StateNew(), second, countedTo(first)))
			if !impl.WorldOk(w) {
				t.Error("refused", first, second)
			}
		}
	}
}

// P62: every number of heights of one chain with each height known to the other one, whichever it is and however many that one has itself.
func TestWorldKnownHeights(t *testing.T) {
	for has := range 2 {
		for n := 0; n <= impl.HeightMax; n++ {
			for _, own := range []int{0, impl.HeightMax} {
				chains := []impl.Chain{chainOf(1, someBanks[0], impl.StateNew(), own, nil), chainOf(2, someBanks[0], impl.StateNew(), own, nil)}
				chains[has] = chainOf(has+1, someBanks[0], impl.StateNew(), n, nil)
				for _, height := range []int{1, n - 1, n, n + 1, n + 2, impl.HeightMax} {
					w := impl.World{Chains: chains}
					w.Chains[1-has].Knows = []int{height}
					if ok := height >= 1 && height <= n; impl.WorldOk(w) != ok {
						t.Errorf("chain %d has %d heights, %d is known: %v", has+1, n, height, !ok)
					}
				}
			}
		}
	}
}

// P55, P62: each thing in turn that makes a run invalid.
func TestWorldNotOk(t *testing.T) {
	for i, w := range madeWorlds() {
		if i%9 != 0 && i < 99 {
			continue
		}
		for _, bad := range invalidWorlds(w) {
			checkNoWorld(t, bad.name, bad.world)
		}
	}
}

// P55: one chain that is not valid, the other one valid.
func TestWorldOfInvalidChain(t *testing.T) {
	w := worldOf(fewChains()[2], changedChain(fewChains()[1], func(c *impl.Chain) { c.Knows = []int{3} }))
	w.Chains[0].Knows = []int{1}
	if !impl.WorldOk(w) {
		t.Fatal("wrong case", w)
	}
	for _, bad := range invalidParts(w) {
		if impl.WorldOk(bad.world) {
			t.Error("accepted:", bad.name)
		}
		for _, e := range []impl.Event{{}, blockOn(1), blockOn(2)} {
			if got := impl.WorldDo(bad.world, e); !zeroWorld(got) {
				t.Errorf("%s: WorldDo gives %v", bad.name, got)
			}
		}
		if got := impl.WorldCalm(bad.world, 0); !zeroWorld(got) {
			t.Errorf("%s: WorldCalm gives %v", bad.name, got)
		}
	}
}

// P55, P65: runs of every kind with events of every kind on both chains, by heights that are known and others.
func TestWorldDo(t *testing.T) {
	done := map[string]int{}
	for i, w := range madeWorlds() {
		for id := 1; id <= 2; id++ {
			for j, e := range eventsOn(id, w.Chains[id-1], w.Chains[2-id]) {
				long := len(w.Chains[0].Past)+len(w.Chains[1].Past) > 10
				if long && e.Kind != impl.EvBlock && e.Kind != impl.EvLate && (i/7+j)%7 != 0 {
					continue // most events on long runs are left out: they take long
				}
				got := checkDo(t, w, e)
				done[fmt.Sprint(e.Kind, !sameWorld(got, w))]++
			}
		}
	}
	for kind := impl.EvBlock; kind <= impl.EvMove; kind++ {
		if done[fmt.Sprint(kind, true)] < 10 || done[fmt.Sprint(kind, false)] < 4 {
			t.Error("too few cases of kind", kind, done)
		}
	}
}

// P64: kinds that there are not, with fields that would be possible for every other kind.
func TestWorldUnknownKind(t *testing.T) {
	kinds := append([]int{0, 9, 10, -1, -8, 16, 100, 1<<8 + 8, 1<<32 + 8}, farNumbers...)
	for _, w := range []impl.World{impl.WorldNew(), openWorld(t), fullWorld()} {
		for _, kind := range kinds {
			for id := 0; id <= 3; id++ {
				p := impl.Packet{Seq: 1, Kind: 1, From: 1, To: 2, Sum: 1, Until: 90, Ver: 1}
				for n := 0; n <= 7; n++ {
					mustNotChange(t, w, impl.Event{Kind: kind, Chain: id, Height: 1, N: n, Packet: p})
				}
			}
		}
	}
}

// P64: chains that there are not, with events that are possible on both chains.
func TestWorldUnknownChain(t *testing.T) {
	w := openWorld(t)
	w = changes(t, w, blockOn(2), knowOn(1, 2), blockOn(2), blockOn(1))
	for _, e := range []impl.Event{blockOn(0), knowOn(0, 3), sendOn(0, sending{1, 1, 2, 3, 50}), stepOn(0, 0, impl.StepNew), moveOn(0, 1, 1, 2, 3)} {
		for id := 1; id <= 2; id++ {
			e.Chain = id
			mustChange(t, w, e)
		}
		for _, id := range append([]int{0, 3, 4, -1, -2, 1<<8 + 1, 1<<32 + 2}, noIds...) {
			e.Chain = id
			mustNotChange(t, w, e)
		}
	}
}

// P65: fields that an event does not use are not looked at.
func TestWorldUnusedFields(t *testing.T) {
	w := changedWorld(unknownWorld(t), func(w *impl.World) { w.Chains[0].Knows = []int{4} })
	odd := impl.Packet{Seq: -1, Kind: math.MaxInt, From: 9, To: -1, Sum: math.MinInt, Until: 91, Ver: 10}
	for _, far := range append([]int{-1, 0, 9, 91}, farNumbers...) {
		plain := []impl.Event{
			blockOn(1), knowOn(1, 5), sendOn(1, sending{1, 2, 0, 5, 90}), getOn(1, 4, w.Chains[1].State.Sent[0]),
			tellOn(1, 4, 2), lateOn(1, 4, 1), stepOn(1, 4, impl.StepNew), moveOn(1, 1, 1, 2, 2),
		}
		for _, e := range plain {
			want := mustChange(t, w, e)
			if e.Packet == (impl.Packet{}) {
				e.Packet = odd
			}
			if e.Height == 0 {
				e.Height = far
			}
			if e.N == 0 {
				e.N = far
			}
			if e.Kind == impl.EvSend || e.Kind == impl.EvMove {
				e.Packet.Seq, e.Packet.Ver = far, far
			}
			if e.Kind == impl.EvMove {
				e.Packet.Until = far
			}
			if got := mustChange(t, w, e); !sameWorld(got, want) {
				t.Errorf("%+v gives %v, not %v", e, got, want)
			}
		}
	}
}

// P64: packets that are not valid, each with one field out of its range.
func TestWorldInvalidPacket(t *testing.T) {
	w := changes(t, openWorld(t), sendOn(1, sending{1, 1, 2, 3, 50}), blockOn(1), knowOn(2, 3))
	p := w.Chains[0].State.Sent[0]
	mustChange(t, w, getOn(2, 3, p))
	mustNotChange(t, w, getOn(2, 3, impl.Packet{}))
	for _, f := range packetFields {
		for _, n := range slices.Concat(beyond(f), farNumbers) {
			if n >= f.low && n <= f.high {
				continue
			}
			mustNotChange(t, w, getOn(2, 3, changed(p, f, n)))
			if f.name != "Seq" && f.name != "Ver" {
				e := sendOn(1, sending{1, 2, 3, 4, 60})
				e.Packet = changed(e.Packet, f, n)
				mustNotChange(t, w, e)
			}
		}
	}
}

// P55, P65: transfers between users, of either kind, as BankMove has them; amounts above those of a packet, too.
func TestWorldMove(t *testing.T) {
	w := worldOf(
		chainOf(1, bank([]int{20, 3, 0}, []int{0, 12, 1}, 7), impl.StateNew(), 1, nil),
		chainOf(2, bank([]int{0, 0, 30}, []int{9, 9, 9}, 0), endOf(impl.WayFlush, 2, "l").state, 0, []int{1}))
	for id := 1; id <= 2; id++ {
		for kind := 0; kind <= 3; kind++ {
			for from := 0; from <= 4; from++ {
				for to := 0; to <= 4; to++ {
					for _, sum := range append([]int{-1, 0, 1, 9, 10, 12, 13, 20, 21, 30, 31}, farNumbers...) {
						checkDo(t, w, moveOn(id, kind, from, to, sum))
					}
				}
			}
		}
	}
	got := mustChange(t, w, moveOn(1, impl.CoinOwn, 1, 3, 20))
	if !sameBank(got.Chains[0].Bank, bank([]int{0, 3, 20}, []int{0, 12, 1}, 7)) {
		t.Error(got)
	}
	mustNotChange(t, w, moveOn(1, impl.CoinOwn, 1, 1, 5))
	mustNotChange(t, w, moveOn(1, impl.CoinOwn, 1, 2, 0))
}

// unknownWorld has an open channel, with packets of both chains in flight of which one was rejected, and heights that the chains do not know yet.
func unknownWorld(t *testing.T) impl.World {
	w := changes(t, openWorld(t), blockOn(2), knowOn(1, 2),
		sendOn(1, sending{1, 1, 2, 3, 4}), sendOn(1, sending{1, 2, 0, 5, 80}), blockOn(1), knowOn(2, 3))
	w = changes(t, w, getOn(2, 3, w.Chains[0].State.Sent[1]), sendOn(2, sending{1, 3, 1, 2, 80}),
		blockOn(2), blockOn(2), blockOn(2), blockOn(1), stepOn(2, 0, impl.StepNew), blockOn(2))
	return w
}

// P64, P65: the same event by each height: it is possible only by a height that is known, though others would allow it.
func TestWorldHeights(t *testing.T) {
	w := unknownWorld(t) // chain 2 has heights 1 to 6: packet 2 rejected from 3 on, its upgrade begun at 6
	events := map[string]struct {
		event func(height int) impl.Event
		from  int
	}{
		"get":  {func(h int) impl.Event { return getOn(1, h, w.Chains[1].State.Sent[0]) }, 3},
		"tell": {func(h int) impl.Event { return tellOn(1, h, 2) }, 3},
		"late": {func(h int) impl.Event { return lateOn(1, h, 1) }, 4},
		"step": {func(h int) impl.Event { return stepOn(1, h, impl.StepAlso) }, 6},
	}
	for name, row := range events {
		for _, knows := range [][]int{{2}, {2, 3}, {2, 4}, {2, 5}, {6}, {4, 6}, {3, 5}, countedTo(6), nil} {
			known := changedWorld(w, func(w *impl.World) { w.Chains[0].Knows = knows })
			for _, height := range append([]int{-6, -1, 0, 1, 2, 3, 4, 5, 6, 7, 8, 89, 90, 91, 1<<8 + 6, 1<<32 + 6}, farNumbers...) {
				if slices.Contains(knows, height) && height >= row.from {
					mustChange(t, known, row.event(height))
				} else {
					mustNotChange(t, known, row.event(height))
				}
			}
		}
		if t.Failed() {
			t.Fatal(name)
		}
	}
}

// P65: the state at the height counts, not that of now nor that of another height.
func TestWorldStateAtHeight(t *testing.T) {
	w := changes(t, openWorld(t), sendOn(1, sending{1, 1, 2, 3, 50}), blockOn(1), sendOn(1, sending{1, 1, 2, 4, 50}))
	first, second := w.Chains[0].State.Sent[0], w.Chains[0].State.Sent[1]
	w = changes(t, w, knowOn(2, 3))
	mustNotChange(t, w, getOn(2, 2, first))
	mustNotChange(t, w, getOn(2, 3, second))
	w = changes(t, w, blockOn(1), knowOn(2, 4))
	mustNotChange(t, w, getOn(2, 3, second))
	mustChange(t, w, getOn(2, 3, first))
	mustChange(t, w, getOn(2, 4, first))
	w = changes(t, w, getOn(2, 4, second), blockOn(2), knowOn(1, 2), tellOn(1, 2, 2), blockOn(1), knowOn(2, 5))
	mustChange(t, w, getOn(2, 4, first))
	mustChange(t, w, getOn(2, 5, first))
	mustNotChange(t, w, getOn(2, 5, second))
	mustNotChange(t, w, lateOn(1, 2, 1))
}

// P67, P65: a timeout goes by the height of the event and the state then, also if the packet was received later on.
func TestWorldLateHeight(t *testing.T) {
	w := changes(t, openWorld(t), sendOn(1, sending{1, 1, 2, 3, 4}), blockOn(1), knowOn(2, 3))
	for range 2 {
		w = changes(t, w, blockOn(2))
	}
	w = changes(t, w, knowOn(1, 3))
	mustNotChange(t, w, lateOn(1, 3, 1))
	mustNotChange(t, w, getOn(2, 3, w.Chains[0].State.Sent[0]))
	w = changes(t, w, blockOn(2))
	mustNotChange(t, w, lateOn(1, 4, 1))
	w = changes(t, w, knowOn(1, 4))
	mustNotChange(t, w, lateOn(1, 3, 1))
	w = changes(t, w, lateOn(1, 4, 1))
	if !sameBank(w.Chains[0].Bank, impl.BankNew()) {
		t.Error(w)
	}
}

// P65: StepInit and StepNew, which require nothing of the other end, by no height, by known ones and by others.
func TestWorldStepsWithoutHeight(t *testing.T) {
	heights := append([]int{0, 1, 2, 3, -1, 90, 91}, farNumbers...)
	for _, height := range heights {
		for id := 1; id <= 2; id++ {
			w := mustChange(t, impl.WorldNew(), stepOn(id, height, impl.StepInit))
			mustNotChange(t, w, stepOn(id, height, impl.StepInit))
			mustNotChange(t, w, stepOn(id, height, impl.StepNew))
			mustNotChange(t, w, stepOn(3-id, height, impl.StepTry))
			open := openWorld(t)
			mustNotChange(t, open, stepOn(id, height, impl.StepInit))
			open = mustChange(t, open, stepOn(id, height, impl.StepNew))
			mustNotChange(t, open, stepOn(id, height, impl.StepNew))
			mustNotChange(t, open, stepOn(id, height, impl.StepAlso))
			if s := open.Chains[id-1].State; s.Way != impl.WayFlush || s.Want != 2 {
				t.Error(height, id, s)
			}
		}
	}
}

// P65: numbers that are no step or no packet, by a height that is known.
func TestWorldNoNumbers(t *testing.T) {
	w := changedWorld(unknownWorld(t), func(w *impl.World) { w.Chains[0].Knows = countedTo(6) })
	for _, n := range noSteps() {
		mustNotChange(t, w, stepOn(1, 6, n))
		if n < 1 || n > 8 {
			mustNotChange(t, w, tellOn(1, 6, n))
			mustNotChange(t, w, lateOn(1, 6, n))
		}
	}
}

// P62: heights become known in any order, and are ascending whatever the order.
func TestWorldKnow(t *testing.T) {
	for id := 1; id <= 2; id++ {
		start := impl.WorldNew()
		for range 5 {
			start = changes(t, start, blockOn(3-id))
		}
		for _, order := range [][]int{{1, 2, 3, 4, 5}, {5, 4, 3, 2, 1}, {3, 1, 5, 2, 4}, {2, 5, 1}, {4, 2}, {5}} {
			w := start
			for _, height := range order {
				w = mustChange(t, w, knowOn(id, height))
				for _, no := range append([]int{height, 0, -1, 6, 7, 90, 91}, farNumbers...) {
					mustNotChange(t, w, knowOn(id, no))
				}
			}
			want := slices.Sorted(slices.Values(order))
			if !slices.Equal(w.Chains[id-1].Knows, want) || len(w.Chains[2-id].Knows) != 0 {
				t.Error(order, w)
			}
			for _, height := range []int{1, 2, 3, 4, 5} {
				mustNotChange(t, w, knowOn(3-id, height))
			}
		}
	}
}

// P62: up to HeightMax heights known, each put in at every place.
func TestWorldKnowManyHeights(t *testing.T) {
	w := changedWorld(fullWorld(), func(w *impl.World) { w.Chains[1].Knows = nil })
	for n := range impl.HeightMax {
		w = mustChange(t, w, knowOn(2, 1+n*37%impl.HeightMax))
	}
	if !slices.Equal(w.Chains[1].Knows, countedTo(impl.HeightMax)) {
		t.Error(w.Chains[1].Knows)
	}
	for _, height := range []int{0, 1, impl.HeightMax, impl.HeightMax + 1} {
		mustNotChange(t, w, knowOn(2, height))
	}
	for height := 1; height <= impl.HeightMax; height++ {
		but := changedWorld(w, func(w *impl.World) { w.Chains[1].Knows = slices.Delete(w.Chains[1].Knows, height-1, height) })
		mustChange(t, but, knowOn(2, height))
	}
}

// P55, P66: blocks up to HeightMax and on.
func TestWorldBlocks(t *testing.T) {
	w := openWorld(t)
	for range impl.HeightMax - 2 {
		w = mustChange(t, w, blockOn(1))
	}
	if len(w.Chains[0].Past) != impl.HeightMax || len(w.Chains[1].Past) != 1 {
		t.Error(w)
	}
	mustNotChange(t, w, blockOn(1))
	mustChange(t, w, blockOn(2))
	w = mustChange(t, w, sendOn(1, sending{1, 1, 2, 3, 50}))
	mustNotChange(t, w, blockOn(1))
}

// P56: no event, one, and as many as there may be.
func TestWorldPlay(t *testing.T) {
	for _, events := range [][]impl.Event{nil, {}} {
		if w, ok := impl.WorldPlay(events); !ok || !sameWorld(w, impl.WorldNew()) {
			t.Error(w, ok)
		}
	}
	for seed := range 24 {
		end, events := drawRun(seed, showNothing)
		w := impl.WorldNew()
		for n := range events {
			if got, ok := impl.WorldPlay(events[:n]); !ok || !sameWorld(got, w) {
				t.Errorf("%d events give %v, %v, not %v", n, got, ok, w)
			}
			w = impl.WorldDo(w, events[n])
		}
		if got, ok := impl.WorldPlay(events); len(events) != impl.PlayMax || !ok || !sameWorld(got, end) {
			t.Errorf("%d events give %v, %v, not %v", len(events), got, ok, end)
		}
	}
}

// P56: one event too many, and many; also if none of them is possible.
func TestWorldPlayTooMany(t *testing.T) {
	for _, e := range []impl.Event{{}, blockOn(1), stepOn(2, 0, impl.StepInit), blockOn(3)} {
		most := slices.Repeat([]impl.Event{e}, impl.PlayMax)
		if w, ok := impl.WorldPlay(most); !ok || !impl.WorldOk(w) {
			t.Error(e, w, ok)
		}
		for _, n := range []int{impl.PlayMax + 1, impl.PlayMax + 2, 256, 1<<16 + 1, 1000000} {
			if w, ok := impl.WorldPlay(slices.Repeat([]impl.Event{e}, n)); ok || !zeroWorld(w) {
				t.Error(n, e, w, ok)
			}
		}
	}
	w, ok := impl.WorldPlay(slices.Repeat([]impl.Event{blockOn(1)}, impl.PlayMax))
	if !ok || len(w.Chains[0].Past) != impl.PlayMax || len(w.Chains[1].Past) != 0 {
		t.Error(w, ok)
	}
}

// P56, P57, P58, P59, P62, P63, P66, P67, P68, P69, P70, P71: after each of PlayMax drawn events, and at the end.
func TestWorldDrawnEvents(t *testing.T) {
	seen := map[string]int{}
	for seed := range 240 {
		r := drawnRun{seen: seen}
		drawRun(seed, func(before, after impl.World, e impl.Event) { r.follow(t, before, after, e) })
		r.checkEnd(t)
	}
	want := map[string]int{
		"kind 1": 2000, "kind 2": 1000, "kind 3": 300, "kind 8": 200, "nothing": 1000,
		"step 1": 50, "step 2": 100, "step 3": 50, "step 4": 50, "step 5": 50, "step 6": 20, "step 7": 50,
		"got 1 of kind 1": 100, "got 1 of kind 2": 10, "got 2 of kind 1": 20, "got 2 of kind 2": 1, "told 2": 50, "told 3": 10, "kind 6": 20,
		"upgraded behind packets": 10, "upgrade at both ends": 20,
	}
	for name, least := range want {
		if seen[name] < least {
			t.Errorf("too few cases: %s %d", name, seen[name])
		}
	}
}

// P65: drawn events on drawn runs, each compared with a second statement of what it does.
func TestWorldDrawnEventsEachByEach(t *testing.T) {
	for seed := 1000; seed < 1060; seed++ {
		drawRun(seed, func(before, after impl.World, e impl.Event) {
			if got := checkDo(t, before, e); !sameWorld(got, after) {
				t.Errorf("%+v gives %v, then %v", e, after, got)
			}
		})
	}
}

// General rules: arguments stay as they are, also beyond the length of their lists, nothing there is looked at, and results share no memory.
func TestWorldMemory(t *testing.T) {
	for i, made := range madeWorlds() {
		if i%7 != 0 && i < 99 {
			continue
		}
		w := roomyWorld(made)
		before := copyWorld(wholeWorld(w))
		lists := [][]any{worldPlaces(w)}
		var results []impl.World
		take := func(name string, first, second impl.World) {
			if !sameWorld(first, second) {
				t.Errorf("%s depends on what is beyond a list: %v, %v", name, first, second)
			}
			results = append(results, first)
			lists = append(lists, worldPlaces(first))
		}
		for id := 1; id <= 2; id++ {
			for j, e := range eventsOn(id, made.Chains[id-1], made.Chains[2-id]) {
				if got := impl.WorldDo(made, e); !sameWorld(got, made) || j%20 == i%20 {
					take(fmt.Sprintf("%+v", e), impl.WorldDo(w, e), got)
				}
			}
		}
		for _, rounds := range []int{0, 1, 5} {
			take("WorldCalm", impl.WorldCalm(w, rounds), impl.WorldCalm(made, rounds))
		}
		checkPlaces(t, "results", lists...)
		for _, result := range results {
			spoilWorld(result)
		}
		if !sameWorld(wholeWorld(w), before) {
			t.Errorf("argument changed: %v", made)
		}
	}
}

// General rules: the events of WorldPlay stay as they are, and two results share no memory.
func TestWorldPlayMemory(t *testing.T) {
	for seed := range 8 {
		_, events := drawRun(seed, showNothing)
		list := roomyOf(events[:50], blockOn(1))
		before := slices.Clone(list[:cap(list)])
		first, ok1 := impl.WorldPlay(list)
		second, ok2 := impl.WorldPlay(events[:50])
		if !ok1 || !ok2 || !sameWorld(first, second) || !slices.Equal(list[:cap(list)], before) {
			t.Error(events)
		}
		checkPlaces(t, "WorldPlay", worldPlaces(first), worldPlaces(second))
		spoilWorld(first)
		if third, _ := impl.WorldPlay(list); !sameWorld(third, second) {
			t.Error("WorldPlay keeps a state", events)
		}
	}
}

// General rules: a run whose chains share lists is a run like any other, and stays as it is.
func TestWorldOfSharedLists(t *testing.T) {
	s := endOf(impl.WayOpen, 1, "ll").state
	knows := []int{1, 2}
	b := bank([]int{10, 10, 1}, []int{3, 3, 3}, 9)
	past := []impl.State{s, s, s}
	w := impl.World{Chains: []impl.Chain{{Id: 1, Bank: b, State: s, Past: past, Knows: knows}, {Id: 2, Bank: b, State: s, Past: past, Knows: knows}}}
	before := copyWorld(w)
	lists := [][]any{slices.Concat(places(w.Chains), places(b.Own), places(b.Notes), statePlaces(s), places(past), places(knows))}
	for id := 1; id <= 2; id++ {
		for _, e := range eventsOn(id, w.Chains[id-1], w.Chains[2-id]) {
			lists = append(lists, worldPlaces(checkDo(t, w, e)))
		}
	}
	lists = append(lists, worldPlaces(checkCalm(t, w, 3)))
	checkPlaces(t, "of shared lists", lists...)
	if !sameWorld(w, before) {
		t.Error("argument changed", w)
	}
}

// General rules: an empty list may be nil or not.
func TestWorldEmptyLists(t *testing.T) {
	empty := impl.WorldNew()
	for i := range empty.Chains {
		c := &empty.Chains[i]
		c.Past, c.Knows, c.State.Sent, c.State.Live, c.State.Back = []impl.State{}, []int{}, []impl.Packet{}, []bool{}, []bool{}
	}
	for _, e := range append(eventsOn(1, empty.Chains[0], empty.Chains[1]), eventsOn(2, empty.Chains[1], empty.Chains[0])...) {
		if !sameWorld(checkDo(t, empty, e), checkDo(t, impl.WorldNew(), e)) {
			t.Error(e)
		}
	}
	checkCalm(t, empty, 2)
}

// General rules: functions keep no state, and give the same at the same time.
func TestWorldNoState(t *testing.T) {
	w := changedWorld(unknownWorld(t), func(w *impl.World) { w.Chains[0].Knows = countedTo(6) })
	events := append(eventsOn(1, w.Chains[0], w.Chains[1]), eventsOn(2, w.Chains[1], w.Chains[0])...)
	var want []impl.World
	for _, e := range events {
		want = append(want, impl.WorldDo(w, e))
	}
	calm := impl.WorldCalm(w, 4)
	done := make(chan string)
	for range 4 {
		go func() {
			for i, e := range events {
				if !sameWorld(impl.WorldDo(w, e), want[i]) {
					done <- fmt.Sprintf("%+v", e)
					return
				}
			}
			if !sameWorld(impl.WorldCalm(w, 4), calm) {
				done <- "WorldCalm"
				return
			}
			done <- ""
		}()
	}
	for range 4 {
		if wrong := <-done; wrong != "" {
			t.Error("not the same again:", wrong)
		}
	}
}
