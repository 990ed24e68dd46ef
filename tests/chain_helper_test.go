package tests

import (
	"slices"
	"testing"

	"loop.example/hawser/impl"
)

func copyStates(list []impl.State) []impl.State {
	var out []impl.State
	for _, s := range list {
		out = append(out, copyState(s))
	}
	return out
}

func copyChain(c impl.Chain) impl.Chain {
	return impl.Chain{Id: c.Id, Bank: copyBank(c.Bank), State: copyState(c.State), Past: copyStates(c.Past), Knows: slices.Clone(c.Knows)}
}

func sameChain(a, b impl.Chain) bool {
	return a.Id == b.Id && sameBank(a.Bank, b.Bank) && sameState(a.State, b.State) &&
		slices.EqualFunc(a.Past, b.Past, sameState) && slices.Equal(a.Knows, b.Knows)
}

func zeroChain(c impl.Chain) bool {
	return sameChain(c, impl.Chain{})
}

// changedChain is a copy of a chain to which a change was made.
func changedChain(c impl.Chain, change func(c *impl.Chain)) impl.Chain {
	d := copyChain(c)
	change(&d)
	return d
}

// madeStates are made once, because many chains are made of them.
var madeStates = fewStates()

// pastOf has so many states, of which neighbours differ, of every Way and with packets of every fate.
func pastOf(heights int) []impl.State {
	var out []impl.State
	for i := range heights {
		out = append(out, copyState(madeStates[i*7%len(madeStates)].state))
	}
	return out
}

// countedTo has the numbers from 1 on.
func countedTo(n int) []int {
	var out []int
	for i := range n {
		out = append(out, i+1)
	}
	return out
}

// chainOf is a valid chain, if its parts are, with lists of its own.
func chainOf(id int, b impl.Bank, s impl.State, heights int, knows []int) impl.Chain {
	return copyChain(impl.Chain{Id: id, Bank: b, State: s, Past: pastOf(heights), Knows: knows})
}

var (
	heightCounts = []int{0, 1, 2, impl.HeightMax - 1, impl.HeightMax}
	knowLists    = [][]int{nil, {1}, {impl.HeightMax}, {1, impl.HeightMax}, {2, 3, 50}, {89, 90}, countedTo(impl.HeightMax)}
	someBanks    = []impl.Bank{
		impl.BankNew(),
		bank([]int{6, 10, 10}, []int{0, 7, 0}, 4),
		bank([]int{0, 0, 0}, []int{30, 0, 0}, supply),
		bank([]int{0, 30, 0}, []int{9, 8, 13}, 0),
	}
)

// validChains has every Way of the channel, with packets and without, and every number of heights, each with other parts of the rest.
func validChains() []impl.Chain {
	var out []impl.Chain
	for _, m := range madeStates {
		for _, heights := range heightCounts {
			n := len(out)
			out = append(out, chainOf(1+n%2, someBanks[n%len(someBanks)], m.state, heights, knowLists[n%len(knowLists)]))
		}
	}
	return out
}

// fewChains are for tests that change each chain in many ways.
func fewChains() []impl.Chain {
	return []impl.Chain{
		chainOf(1, impl.BankNew(), impl.StateNew(), 0, nil),
		chainOf(2, someBanks[1], endOf(impl.WayOpen, 1, "l").state, 1, []int{4}),
		chainOf(1, someBanks[3], endOf(impl.WayFlush, 8, "dbl").state, 3, []int{1, 2, 90}),
		chainOf(2, someBanks[1], endOf(impl.WayOpen, 9, "lbdlbdl").state, impl.HeightMax, countedTo(impl.HeightMax)),
	}
}

// richChain is an open channel of a version, from whose chain every user can send as much of both kinds as a packet takes.
func richChain(ver int, fates string) impl.Chain {
	return chainOf(1, bank([]int{10, 10, 10}, []int{10, 10, 10}, 0), endOf(impl.WayOpen, ver, fates).state, 2, []int{1, 3})
}

type namedChain struct {
	name  string
	chain impl.Chain
}

// noIds are numbers that no chain has.
var noIds = append([]int{0, 3, -1, -2, 4, 12, 1<<8 + 2, 1<<16 + 2, 1<<32 + 2}, farNumbers...)

// invalidChains are a valid chain with each of the things in turn that the specification rules out.
func invalidChains(c impl.Chain) []namedChain {
	out := []namedChain{{"zero value", impl.Chain{}}}
	add := func(name string, change func(c *impl.Chain)) {
		out = append(out, namedChain{name, changedChain(c, change)})
	}
	for _, id := range noIds {
		add("no such number", func(c *impl.Chain) { c.Id = id })
	}
	for _, bad := range invalidBanks() {
		add("bank: "+bad.name, func(c *impl.Chain) { c.Bank = copyBank(bad.bank) })
	}
	for _, bad := range invalidStates(c.State) {
		add("state: "+bad.name, func(c *impl.Chain) { c.State = copyState(bad.state) })
	}
	for _, knows := range invalidKnows() {
		add("known heights", func(c *impl.Chain) { c.Knows = knows })
	}
	for _, heights := range []int{impl.HeightMax + 1, impl.HeightMax + 2, 2 * impl.HeightMax, 256} {
		add("too many heights", func(c *impl.Chain) { c.Past = pastOf(heights) })
	}
	return append(out, invalidPasts(c)...)
}

// invalidPasts have one state at a height that is not valid, at the first height, in the middle, and at the last one.
func invalidPasts(c impl.Chain) []namedChain {
	var out []namedChain
	add := func(name string, past []impl.State, at int, bad impl.State) {
		past = copyStates(past)
		past[at] = copyState(bad)
		out = append(out, namedChain{"height: " + name, changedChain(c, func(c *impl.Chain) { c.Past = past })})
	}
	for _, past := range [][]impl.State{pastOf(1), pastOf(3), pastOf(impl.HeightMax)} {
		for _, at := range []int{0, len(past) / 2, len(past) - 1} {
			add("zero value", past, at, impl.State{})
			add("no Got", past, at, changedState(past[at], func(s *impl.State) { s.Got = nil }))
			add("no such Way", past, at, changedState(past[at], func(s *impl.State) { s.Way = 5 }))
		}
	}
	three := pastOf(3)
	for at := range three {
		for _, bad := range invalidStates(three[at]) {
			add(bad.name, three, at, bad.state)
		}
	}
	return out
}

// invalidKnows are lists that are not ascending, or leave the range of heights.
func invalidKnows() [][]int {
	out := [][]int{
		{0}, {0, 1}, {1, 0}, {-1}, {-1, 1}, {91}, {90, 91}, {1, 91}, {92}, {91, 90},
		{1, 1}, {90, 90}, {1, 2, 2}, {1, 1, 2}, {2, 1}, {90, 1}, {1, 3, 2}, {2, 1, 3}, {3, 2, 1}, {1, 2, 1},
		append([]int{0}, countedTo(90)...), countedTo(91), append(countedTo(90), 90), append(countedTo(90), 1),
		slices.Repeat([]int{1}, 90), make([]int, 90), slices.Repeat(countedTo(90), 3),
	}
	for _, far := range farNumbers {
		out = append(out, []int{far}, []int{1, far}, []int{far, 1}, []int{1, far, 90})
	}
	return out
}

// checkNoChain checks that a chain is refused by every function.
func checkNoChain(t *testing.T, name string, c impl.Chain) {
	t.Helper()
	if impl.ChainOk(c) {
		t.Errorf("%s: accepted: %v", name, c)
	}
	if got := impl.ChainBlock(c); !zeroChain(got) {
		t.Errorf("%s: ChainBlock gives %v", name, got)
	}
	if got, seq, ok := impl.ChainSend(c, impl.CoinOwn, 1, 2, 1, 9); ok || seq != 0 || !zeroChain(got) {
		t.Errorf("%s: ChainSend gives %v, %d, %v", name, got, seq, ok)
	}
	if got, seq, ok := impl.ChainSend(c, 0, 0, 0, 0, 0); ok || seq != 0 || !zeroChain(got) {
		t.Errorf("%s: ChainSend of no packet gives %v, %d, %v", name, got, seq, ok)
	}
	for _, height := range []int{0, 1, 2, 3, len(c.Past), len(c.Past) + 1} {
		if got, ok := impl.ChainAt(c, height); ok || !zeroState(got) {
			t.Errorf("%s: at height %d: %v, %v", name, height, got, ok)
		}
	}
	if height, seq := impl.ChainNext(c); height != 0 || seq != 0 {
		t.Errorf("%s: next are %d and %d", name, height, seq)
	}
}

// sending is what ChainSend is asked to send.
type sending struct {
	kind, from, to, sum, until int
}

// packetOf is the packet that a chain would send.
func (x sending) packetOf(c impl.Chain) impl.Packet {
	return impl.Packet{Seq: len(c.State.Sent) + 1, Kind: x.kind, From: x.from, To: x.to, Sum: x.sum, Until: x.until, Ver: c.State.Ver}
}

// wantSent says whether a valid chain must send this, written out from the specification.
func (x sending) wantSent(c impl.Chain) bool {
	valid := len(c.State.Sent) < 8 && (x.kind == 1 || x.kind == 2) && x.from >= 1 && x.from <= 3 && x.to >= 0 && x.to <= 3 &&
		x.sum >= 1 && x.sum <= 9 && x.until >= 1 && x.until <= 90
	return valid && c.State.Way == 3 && amount(c.Bank, x.kind, x.from) >= x.sum
}

// wantAfter is the chain after this was sent.
func (x sending) wantAfter(c impl.Chain) impl.Chain {
	return changedChain(c, func(c *impl.Chain) {
		p := x.packetOf(*c)
		c.State = morePackets(c.State, len(c.State.Sent), p, true, false)
		c.Bank = with(c.Bank, x.kind, x.from, -x.sum)
		if x.kind == 1 {
			c.Bank = withLocked(c.Bank, x.sum)
		}
	})
}

// checkSend checks what a valid chain makes of this, whether it may send it or not, and returns the result.
func checkSend(t *testing.T, c impl.Chain, x sending) impl.Chain {
	t.Helper()
	before := copyChain(c)
	got, seq, ok := impl.ChainSend(c, x.kind, x.from, x.to, x.sum, x.until)
	want, wantSeq := before, 0
	if x.wantSent(before) {
		want, wantSeq = x.wantAfter(before), len(before.State.Sent)+1
	}
	if ok != (wantSeq > 0) || seq != wantSeq || !sameChain(got, want) {
		t.Errorf("sending %+v gives %d, %v, %v: %v", x, seq, ok, got, before)
	}
	if !impl.ChainOk(got) || !sameChain(c, before) {
		t.Errorf("sending %+v: the result is not valid, or the argument changed: %v", x, before)
	}
	return got
}

// mustSend is the chain after sending what it must send.
func mustSend(t *testing.T, c impl.Chain, x sending) impl.Chain {
	t.Helper()
	if !x.wantSent(c) {
		t.Fatalf("%+v cannot be sent: %v", x, c)
	}
	return checkSend(t, c, x)
}

// checkBlock checks what ChainBlock makes of a valid chain, and returns it.
func checkBlock(t *testing.T, c impl.Chain) impl.Chain {
	t.Helper()
	before := copyChain(c)
	want := copyChain(c)
	if len(want.Past) < 90 {
		want.Past = append(want.Past, copyState(c.State))
	}
	got := impl.ChainBlock(c)
	if !sameChain(got, want) || !impl.ChainOk(got) {
		t.Errorf("ChainBlock gives %v: %v", got, before)
	}
	if !sameChain(c, before) {
		t.Errorf("ChainBlock changed its argument: %v", before)
	}
	return got
}

// checkHeights checks that exactly these heights are there, each with this state.
func checkHeights(t *testing.T, name string, c impl.Chain, past []impl.State) {
	t.Helper()
	for i, want := range past {
		if got, ok := impl.ChainAt(c, i+1); !ok || !sameState(got, want) {
			t.Errorf("%s: at height %d: %v, %v, not %v", name, i+1, got, ok, want)
		}
	}
	n := len(past)
	for _, height := range append([]int{0, -1, -n, n + 1, n + 2, impl.HeightMax + 1, 1<<8 + n, 1<<16 + n, 1<<32 + n}, farNumbers...) {
		if height >= 1 && height <= n {
			continue
		}
		if got, ok := impl.ChainAt(c, height); ok || !zeroState(got) {
			t.Errorf("%s: at height %d of %d: %v, %v", name, height, n, got, ok)
		}
	}
}

// roomyChain is a copy of a chain in which each list has spare capacity, filled with marks.
func roomyChain(c impl.Chain) impl.Chain {
	var past []impl.State
	for _, s := range append(copyStates(c.Past), pastOf(4)...) {
		past = append(past, roomyState(s))
	}
	past = past[:len(c.Past):len(past)]
	return impl.Chain{Id: c.Id, Bank: roomy(c.Bank), State: roomyState(c.State), Past: past, Knows: roomyOf(c.Knows, 55)}
}

// wholeChain is a chain with all its lists up to their capacity.
func wholeChain(c impl.Chain) impl.Chain {
	c.Bank, c.State, c.Knows = wholeBank(c.Bank), wholeState(c.State), whole(c.Knows)
	past := slices.Clone(c.Past[:cap(c.Past)])
	for i := range past {
		past[i] = wholeState(past[i])
	}
	c.Past = past
	return c
}

// places are the addresses of all elements of a list, up to its capacity.
func places[T any](list []T) []any {
	list = list[:cap(list)]
	var out []any
	for i := range list {
		out = append(out, &list[i])
	}
	return out
}

func statePlaces(s impl.State) []any {
	return slices.Concat(places(s.Sent), places(s.Live), places(s.Back), places(s.Got))
}

func chainPlaces(c impl.Chain) []any {
	out := slices.Concat(places(c.Bank.Own), places(c.Bank.Notes), statePlaces(c.State), places(c.Past), places(c.Knows))
	for _, s := range c.Past[:cap(c.Past)] {
		out = append(out, statePlaces(s)...)
	}
	return out
}

// checkPlaces checks that no address is there twice: no two of the lists share memory.
func checkPlaces(t *testing.T, name string, lists ...[]any) {
	t.Helper()
	seen := map[any]bool{}
	for i, list := range lists {
		for _, place := range list {
			if seen[place] {
				t.Errorf("%s: memory of %d is shared", name, i)
				return
			}
			seen[place] = true
		}
	}
}

// spoilChain overwrites all lists of a chain up to their capacity.
func spoilChain(c impl.Chain) {
	fill(c.Bank.Own, 555)
	fill(c.Bank.Notes, 555)
	fill(c.Knows, 555)
	spoil(c.State)
	past := c.Past[:cap(c.Past)]
	for i := range past {
		spoil(past[i])
		past[i] = impl.State{Way: 555}
	}
}
