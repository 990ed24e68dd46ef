package tests

import (
	"slices"
	"testing"

	"loop.example/hawser/impl"
)

func copyWorld(w impl.World) impl.World {
	var out impl.World
	for _, c := range w.Chains {
		out.Chains = append(out.Chains, copyChain(c))
	}
	return out
}

func sameWorld(a, b impl.World) bool {
	return slices.EqualFunc(a.Chains, b.Chains, sameChain)
}

func zeroWorld(w impl.World) bool {
	return len(w.Chains) == 0
}

// changedWorld is a copy of a run to which a change was made.
func changedWorld(w impl.World, change func(w *impl.World)) impl.World {
	d := copyWorld(w)
	change(&d)
	return d
}

// worldOf is a run of these chains, with lists of its own.
func worldOf(chains ...impl.Chain) impl.World {
	return copyWorld(impl.World{Chains: chains})
}

// Events, each with the fields that it needs and no others.

func blockOn(chain int) impl.Event {
	return impl.Event{Kind: impl.EvBlock, Chain: chain}
}

func knowOn(chain, height int) impl.Event {
	return impl.Event{Kind: impl.EvKnow, Chain: chain, Height: height}
}

func sendOn(chain int, x sending) impl.Event {
	return impl.Event{Kind: impl.EvSend, Chain: chain, Packet: impl.Packet{Kind: x.kind, From: x.from, To: x.to, Sum: x.sum, Until: x.until}}
}

func getOn(chain, height int, p impl.Packet) impl.Event {
	return impl.Event{Kind: impl.EvGet, Chain: chain, Height: height, Packet: p}
}

func tellOn(chain, height, seq int) impl.Event {
	return impl.Event{Kind: impl.EvTell, Chain: chain, Height: height, N: seq}
}

func lateOn(chain, height, seq int) impl.Event {
	return impl.Event{Kind: impl.EvLate, Chain: chain, Height: height, N: seq}
}

func stepOn(chain, height, step int) impl.Event {
	return impl.Event{Kind: impl.EvStep, Chain: chain, Height: height, N: step}
}

func moveOn(chain, kind, from, to, sum int) impl.Event {
	return impl.Event{Kind: impl.EvMove, Chain: chain, Packet: impl.Packet{Kind: kind, From: from, To: to, Sum: sum}}
}

// madeOf is a valid state with the fates of its packets.
func madeOf(s impl.State) madeState {
	fates := ""
	for i := range s.Sent {
		switch {
		case s.Live[i]:
			fates += "l"
		case s.Back[i]:
			fates += "b"
		default:
			fates += "d"
		}
	}
	return madeState{s, fates}
}

// wantStepOf says whether a valid chain must do a step, by the state of the other one at a height, if that is known.
func wantStepOf(c impl.Chain, other impl.State, known bool, step int) bool {
	switch step {
	case 1:
		return c.State.Way == 0
	case 5:
		return c.State.Way == 3 && c.State.Ver < 9
	}
	return known && slices.Contains(wantSteps(madeOf(c.State), madeOf(other)), step)
}

// wantMove is a chain after a transfer between users, written out from the specification.
func wantMove(c impl.Chain, p impl.Packet) impl.Chain {
	user := func(n int) bool { return n >= 1 && n <= 3 }
	if p.Kind != 1 && p.Kind != 2 || !user(p.From) || !user(p.To) || p.Sum < 0 || amount(c.Bank, p.Kind, p.From) < p.Sum {
		return c
	}
	return changedChain(c, func(c *impl.Chain) {
		c.Bank = with(with(c.Bank, p.Kind, p.From, -p.Sum), p.Kind, p.To, p.Sum)
	})
}

// wantChain is a valid chain after an event on it, written out from the specification.
func wantChain(c, other impl.Chain, e impl.Event) impl.Chain {
	p, known, shown := e.Packet, slices.Contains(c.Knows, e.Height), impl.State{}
	if known {
		shown = other.Past[e.Height-1]
	}
	switch {
	case e.Kind == 1 && len(c.Past) < 90:
		return changedChain(c, func(c *impl.Chain) { c.Past = append(c.Past, copyState(c.State)) })
	case e.Kind == 2 && e.Height >= 1 && e.Height <= len(other.Past) && !known:
		return changedChain(c, func(c *impl.Chain) {
			c.Knows = append(c.Knows, e.Height)
			slices.Sort(c.Knows)
		})
	case e.Kind == 3 && (sending{p.Kind, p.From, p.To, p.Sum, p.Until}).wantSent(c):
		return sending{p.Kind, p.From, p.To, p.Sum, p.Until}.wantAfter(c)
	case e.Kind == 4 && known && wantGet(c, shown, p):
		return afterGet(c, p)
	case e.Kind == 5 && known && wantTell(c, shown, e.N):
		return afterSettled(c, e.N, shown.Got[e.N-1] == 2)
	case e.Kind == 6 && known && wantLate(c, shown, e.Height, e.N):
		return afterSettled(c, e.N, true)
	case e.Kind == 7 && wantStepOf(c, shown, known, e.N):
		return changedChain(c, func(c *impl.Chain) { c.State = wantDone(c.State, e.N) })
	case e.Kind == 8:
		return wantMove(c, p)
	}
	return c
}

// wantDo is a valid run after an event.
func wantDo(w impl.World, e impl.Event) impl.World {
	if e.Chain != 1 && e.Chain != 2 {
		return w
	}
	chains := slices.Clone(w.Chains)
	chains[e.Chain-1] = wantChain(w.Chains[e.Chain-1], w.Chains[2-e.Chain], e)
	return impl.World{Chains: chains}
}

// byFunctions is a chain after an event on it, by the functions of the earlier chapters.
func byFunctions(c, other impl.Chain, e impl.Event) impl.Chain {
	p, got, ok := e.Packet, c, true
	shown, is := impl.ChainAt(other, e.Height)
	known := is && slices.Contains(c.Knows, e.Height)
	switch {
	case e.Kind == impl.EvBlock:
		got = impl.ChainBlock(c)
	case e.Kind == impl.EvKnow && is && !known:
		got = changedChain(c, func(c *impl.Chain) { c.Knows = append(c.Knows, e.Height) })
		slices.Sort(got.Knows)
	case e.Kind == impl.EvSend:
		got, _, ok = impl.ChainSend(c, p.Kind, p.From, p.To, p.Sum, p.Until)
	case e.Kind == impl.EvGet && known:
		got, ok = impl.RelayGet(c, shown, p)
	case e.Kind == impl.EvTell && known:
		got, ok = impl.RelayTell(c, shown, e.N)
	case e.Kind == impl.EvLate && known:
		got, ok = impl.RelayLate(c, shown, e.Height, e.N)
	case e.Kind == impl.EvStep && (e.N == impl.StepInit || e.N == impl.StepNew):
		got, ok = impl.RelayStep(c, other.State, e.N)
	case e.Kind == impl.EvStep && known:
		got, ok = impl.RelayStep(c, shown, e.N)
	case e.Kind == impl.EvMove:
		got = copyChain(c)
		got.Bank, ok = impl.BankMove(c.Bank, p.Kind, p.From, p.To, p.Sum)
	}
	if !ok {
		return c
	}
	return got
}

// checkKept checks that a chain has lost no height and no known height.
func checkKept(t *testing.T, before, after impl.Chain) {
	t.Helper()
	if len(after.Past) < len(before.Past) || !slices.EqualFunc(after.Past[:len(before.Past)], before.Past, sameState) {
		t.Errorf("a height is lost: %v, then %v", before, after)
	}
	for _, height := range before.Knows {
		if !slices.Contains(after.Knows, height) {
			t.Errorf("a known height is lost: %v, then %v", before.Knows, after.Knows)
		}
	}
}

// checkDo checks what a valid run makes of an event, whether it is possible or not, and returns the result.
func checkDo(t *testing.T, w impl.World, e impl.Event) impl.World {
	t.Helper()
	before := copyWorld(w)
	got := impl.WorldDo(w, e)
	if want := wantDo(before, e); !sameWorld(got, want) {
		t.Fatalf("%+v gives %v, not %v: %v", e, got, want, before)
	}
	if !impl.WorldOk(got) || !sameWorld(w, before) {
		t.Fatalf("%+v: the result is not valid, or the argument changed: %v", e, before)
	}
	for i, c := range before.Chains {
		checkKept(t, c, got.Chains[i])
		if i+1 != e.Chain && !sameChain(got.Chains[i], c) {
			t.Errorf("%+v changed chain %d: %v", e, i+1, before)
		}
		if i+1 == e.Chain && !sameChain(got.Chains[i], byFunctions(c, before.Chains[1-i], e)) {
			t.Errorf("%+v is not what the functions of the chain do: %v", e, before)
		}
	}
	return got
}

// mustChange is a run after an event that has an effect.
func mustChange(t *testing.T, w impl.World, e impl.Event) impl.World {
	t.Helper()
	got := checkDo(t, w, e)
	if sameWorld(got, w) {
		t.Fatalf("%+v changes nothing: %v", e, w)
	}
	return got
}

// mustNotChange checks that an event has no effect.
func mustNotChange(t *testing.T, w impl.World, e impl.Event) {
	t.Helper()
	if got := checkDo(t, w, e); !sameWorld(got, w) {
		t.Errorf("%+v changes %v to %v", e, w, got)
	}
}

// changes is a run after events that all have an effect.
func changes(t *testing.T, w impl.World, events ...impl.Event) impl.World {
	t.Helper()
	for _, e := range events {
		w = mustChange(t, w, e)
	}
	return w
}

// opening opens the channel from WorldNew on: chain 1 has then 2 heights, and chain 2 has one.
func opening() []impl.Event {
	return []impl.Event{
		stepOn(1, 0, impl.StepInit), blockOn(1),
		knowOn(2, 1), stepOn(2, 1, impl.StepTry), blockOn(2),
		knowOn(1, 1), stepOn(1, 1, impl.StepAck), blockOn(1),
		knowOn(2, 2), stepOn(2, 2, impl.StepDone),
	}
}

func openWorld(t *testing.T) impl.World {
	t.Helper()
	return changes(t, impl.WorldNew(), opening()...)
}

// madeChain is a chain whose last height, if it has one, is its state, as if it had just ended.
func madeChain(id int, b impl.Bank, s impl.State, heights int, knows []int) impl.Chain {
	c := chainOf(id, b, s, heights, knows)
	if heights > 0 {
		c.Past[heights-1] = copyState(s)
	}
	return c
}

// madeWorlds are runs with every pair of states, with few heights and with nearly and just HeightMax, of which all, some or none are known.
func madeWorlds() []impl.World {
	ends := []madeState{
		endOf(impl.WayNone, 1, ""), endOf(impl.WayInit, 1, ""), endOf(impl.WayTry, 1, ""), endOf(impl.WayOpen, 1, ""),
		endOf(impl.WayOpen, 1, "llllllll"), endOf(impl.WayOpen, 2, "dbll"), endOf(impl.WayFlush, 1, "dbl"), endOf(impl.WayFlush, 1, "db"),
		endOf(impl.WayOpen, 9, "ldbldbl"), endOf(impl.WayFlush, 8, "lll"),
	}
	heights := [][2]int{{2, 3}, {0, 1}, {1, 0}, {5, 1}, {3, 2}, {89, 7}, {7, 90}}
	var out []impl.World
	for i, m := range ends {
		for j, o := range ends {
			n := heights[(i+2*j)%len(heights)]
			knows := [][]int{countedTo(n[1]), countedTo(n[0])}
			if (i+2*j)%3 == 0 {
				knows = [][]int{countedTo(n[1] / 2), nil}
			}
			out = append(out, worldOf(
				madeChain(1, someBanks[(i+j)%len(someBanks)], m.state, n[0], knows[0]),
				madeChain(2, someBanks[(2*i+j)%len(someBanks)], changedState(o.state, func(s *impl.State) { s.Got = gotLists[(i*j)%len(gotLists)] }), n[1], knows[1])))
		}
	}
	return append(out, impl.WorldNew(), fullWorld())
}

// fullWorld has HeightMax heights on both chains, all of them known, and packets of every fate on both.
func fullWorld() impl.World {
	all := countedTo(impl.HeightMax)
	return worldOf(
		madeChain(1, bank([]int{6, 7, 8}, []int{5, 6, 4}, 9), endOf(impl.WayOpen, 1, "ldblll").state, impl.HeightMax, all),
		madeChain(2, bank([]int{9, 9, 9}, []int{0, 9, 0}, 3), endOf(impl.WayFlush, 1, "lldbl").state, impl.HeightMax, all))
}

// heightsAround are heights that a chain has, and numbers around them.
func heightsAround(c impl.Chain) []int {
	n := len(c.Past)
	out := []int{-1, 0, 1, 2, n / 2, n - 1, n, n + 1}
	slices.Sort(out)
	return slices.Compact(out)
}

// eventsOn are events of every kind on a chain, by heights that are known and others, possible ones and others.
func eventsOn(id int, c, other impl.Chain) []impl.Event {
	out := []impl.Event{
		blockOn(id), sendOn(id, sending{1, 1, 2, 3, 9}), sendOn(id, sending{2, 2, 0, 1, 90}), sendOn(id, sending{1, 1, 2, 3, 91}),
		moveOn(id, 1, 1, 2, 3), moveOn(id, 2, 2, 3, 7), moveOn(id, 1, 2, 1, 31), moveOn(id, 3, 1, 2, 1),
	}
	for _, height := range heightsAround(other) {
		out = append(out, knowOn(id, height))
		for _, p := range append(slices.Clone(other.State.Sent), variedPacket(8)) {
			out = append(out, getOn(id, height, p), getOn(id, height, changed(p, packetFields[4], p.Sum%9+1)))
		}
		for _, seq := range []int{-1, 0, 1, 2, 4, 6, 8, 9} {
			out = append(out, tellOn(id, height, seq), lateOn(id, height, seq), stepOn(id, height, seq))
		}
		out = append(out, stepOn(id, height, 3), stepOn(id, height, 5), stepOn(id, height, 7))
	}
	return out
}

type namedWorld struct {
	name  string
	world impl.World
}

// invalidWorlds are a valid run with each of the things in turn that the specification rules out.
func invalidWorlds(w impl.World) []namedWorld {
	first, second := w.Chains[0], w.Chains[1]
	third := changedChain(second, func(c *impl.Chain) { c.Id = 3 })
	out := []namedWorld{
		{"zero value", impl.World{}}, {"no chain", impl.World{Chains: []impl.Chain{}}},
		{"chain 1 alone", worldOf(first)}, {"chain 2 alone", worldOf(second)},
		{"numbers exchanged", worldOf(second, first)}, {"chain 1 twice", worldOf(first, first)}, {"chain 2 twice", worldOf(second, second)},
		{"chain 1 also third", worldOf(first, second, first)}, {"chain 2 also third", worldOf(first, second, second)},
		{"a chain 3", worldOf(first, second, third)}, {"chain 3 for chain 2", worldOf(first, third)},
		{"a third chain that is the zero value", worldOf(first, second, impl.Chain{})}, {"four chains", worldOf(first, second, first, second)},
		{"two zero values", worldOf(impl.Chain{}, impl.Chain{})},
	}
	for i, c := range w.Chains {
		n := len(w.Chains[1-i].Past)
		for _, height := range []int{n + 1, n + 2, (n + impl.HeightMax) / 2, impl.HeightMax} {
			if height <= n || height > impl.HeightMax {
				continue
			}
			for _, knows := range [][]int{{height}, append(countedTo(n), height)} {
				bad := changedWorld(w, func(w *impl.World) { w.Chains[i].Knows = knows })
				out = append(out, namedWorld{"a known height that the other chain does not have", bad})
			}
		}
		if n > 0 && slices.Contains(c.Knows, n) {
			bad := changedWorld(w, func(w *impl.World) { w.Chains[1-i].Past = w.Chains[1-i].Past[:n-1] })
			out = append(out, namedWorld{"the last known height lost", bad})
		}
	}
	return out
}

// invalidParts are a valid run with one chain that is not valid.
func invalidParts(w impl.World) []namedWorld {
	var out []namedWorld
	for i := range w.Chains {
		for _, bad := range invalidChains(w.Chains[i]) {
			out = append(out, namedWorld{bad.name, changedWorld(w, func(w *impl.World) { w.Chains[i] = bad.chain })})
		}
	}
	return out
}

// checkNoWorld checks that a run is refused by every function.
func checkNoWorld(t *testing.T, name string, w impl.World) {
	t.Helper()
	if impl.WorldOk(w) {
		t.Errorf("%s: accepted: %v", name, w)
	}
	for _, e := range []impl.Event{{}, blockOn(1), blockOn(2), knowOn(1, 1), stepOn(2, 0, impl.StepInit), moveOn(1, 1, 1, 2, 1)} {
		if got := impl.WorldDo(w, e); !zeroWorld(got) {
			t.Errorf("%s: WorldDo of %+v gives %v", name, e, got)
		}
	}
	for _, rounds := range []int{-1, 0, 1} {
		if got := impl.WorldCalm(w, rounds); !zeroWorld(got) {
			t.Errorf("%s: WorldCalm of %d rounds gives %v", name, rounds, got)
		}
	}
}

// wantRelays are the events that relay everything to a chain, written out from the specification.
func wantRelays(id int, other impl.Chain) []impl.Event {
	n := len(other.Past)
	out := []impl.Event{knowOn(id, n), stepOn(id, n, 2), stepOn(id, n, 3), stepOn(id, n, 4), stepOn(id, n, 6), stepOn(id, n, 7)}
	for _, p := range other.State.Sent {
		out = append(out, getOn(id, n, p))
	}
	for seq := 1; seq <= 8; seq++ {
		out = append(out, tellOn(id, n, seq), lateOn(id, n, seq))
	}
	return out
}

// wantRound is a valid run after a quiet round.
func wantRound(w impl.World) impl.World {
	w = wantDo(wantDo(w, blockOn(1)), blockOn(2))
	for id := 1; id <= 2; id++ {
		for _, e := range wantRelays(id, w.Chains[2-id]) {
			w = wantDo(w, e)
		}
	}
	return w
}

// checkCalm checks what a valid run is after quiet rounds, and returns it.
func checkCalm(t *testing.T, w impl.World, rounds int) impl.World {
	t.Helper()
	before := copyWorld(w)
	want := copyWorld(w)
	for range rounds {
		want = wantRound(want)
	}
	got := impl.WorldCalm(w, rounds)
	if !sameWorld(got, want) {
		t.Fatalf("%d quiet rounds give %v, not %v: %v", rounds, got, want, before)
	}
	if !impl.WorldOk(got) || !sameWorld(w, before) {
		t.Fatalf("%d quiet rounds: the result is not valid, or the argument changed: %v", rounds, before)
	}
	return got
}

// sameButHeights says whether two runs are the same but for heights and known heights.
func sameButHeights(a, b impl.World) bool {
	return slices.EqualFunc(a.Chains, b.Chains, func(c, d impl.Chain) bool {
		return c.Id == d.Id && sameBank(c.Bank, d.Bank) && sameState(c.State, d.State)
	})
}

func worldPlaces(w impl.World) []any {
	out := places(w.Chains)
	for _, c := range w.Chains[:cap(w.Chains)] {
		out = append(out, chainPlaces(c)...)
	}
	return out
}

// roomyWorld is a copy of a run in which each list has spare capacity, filled with marks.
func roomyWorld(w impl.World) impl.World {
	var chains []impl.Chain
	for _, c := range w.Chains {
		chains = append(chains, roomyChain(c))
	}
	chains = append(chains, roomyChain(w.Chains[0]), roomyChain(w.Chains[1]))
	return impl.World{Chains: chains[:len(w.Chains):len(chains)]}
}

// wholeWorld is a run with all its lists up to their capacity.
func wholeWorld(w impl.World) impl.World {
	chains := slices.Clone(w.Chains[:cap(w.Chains)])
	for i := range chains {
		chains[i] = wholeChain(chains[i])
	}
	return impl.World{Chains: chains}
}

// spoilWorld overwrites all lists of a run up to their capacity.
func spoilWorld(w impl.World) {
	chains := w.Chains[:cap(w.Chains)]
	for i := range chains {
		spoilChain(chains[i])
		chains[i] = impl.Chain{Id: 555}
	}
}
