package tests

import (
	"fmt"
	"math/rand"
	"slices"
	"testing"

	"loop.example/hawser/impl"
)

// drawer draws events, always the same ones for a seed. Most of them are such that they may be possible, so that runs come far.
type drawer struct {
	*rand.Rand
}

func drawerOf(seed int) drawer {
	return drawer{rand.New(rand.NewSource(int64(seed)))}
}

// start are the events that a drawn run begins with: none, those that open the channel with vouchers for the other chain, with an upgrade begun, or with many blocks.
func (d drawer) start(seed int) []impl.Event {
	switch seed % 4 {
	case 0:
		return nil
	case 1:
		return append(opening(), stepOn(1+d.Intn(2), 0, impl.StepNew))
	case 2:
		out := opening()
		for range d.Intn(30) {
			out = append(out, blockOn(1+d.Intn(2)))
		}
		return out
	}
	p := impl.Packet{Seq: 1, Kind: impl.CoinOwn, From: 1, To: 2, Sum: 9, Until: 80, Ver: 1}
	return append(opening(), sendOn(1, sending{1, 1, 2, 9, 80}), blockOn(1), knowOn(2, 3), getOn(2, 3, p))
}

// height is mostly the last one that the chain knows, so that most events see what has happened.
func (d drawer) height(c, other impl.Chain) int {
	n := len(other.Past)
	switch k := d.Intn(12); {
	case k < 8 && len(c.Knows) > 0:
		return c.Knows[len(c.Knows)-1]
	case k < 10 && len(c.Knows) > 0:
		return c.Knows[d.Intn(len(c.Knows))]
	case k == 10:
		return d.Intn(n+4) - 1
	}
	return n
}

// sending is of vouchers mostly if the chain has some, and has a timeout that is mostly near.
func (d drawer) sending(c, other impl.Chain) impl.Event {
	kind := impl.CoinOwn + d.Intn(2)
	if total(c.Bank.Notes) > 0 && d.Intn(3) > 0 {
		kind = impl.CoinNote
	}
	until := len(other.Past) + 1 + d.Intn(9)
	if d.Intn(4) == 0 {
		until = d.Intn(impl.HeightMax + 2)
	}
	return sendOn(0, sending{kind, 1 + d.Intn(3), d.Intn(4), 1 + d.Intn(6), until})
}

// packet is mostly one that the other chain has sent.
func (d drawer) packet(other impl.Chain) impl.Packet {
	p := variedPacket(1 + d.Intn(8))
	if n := len(other.State.Sent); n > 0 {
		p = other.State.Sent[d.Intn(n)]
	}
	if d.Intn(10) == 0 {
		f := packetFields[d.Intn(len(packetFields))]
		p = changed(p, f, f.low-1+d.Intn(f.high-f.low+3))
	}
	return p
}

// ownPacket is mostly the number of a packet in flight.
func (d drawer) ownPacket(c impl.Chain) int {
	if live := impl.StateLive(c.State); len(live) > 0 && d.Intn(10) > 0 {
		return live[d.Intn(len(live))]
	}
	return d.Intn(10)
}

// kindOf is an event of a kind on a chain; of no kind, if there is no such one.
func (d drawer) kindOf(kind int, c, other impl.Chain) impl.Event {
	e := impl.Event{Kind: kind, Height: d.height(c, other)}
	switch kind {
	case impl.EvKnow:
		e.Height = len(other.Past) - d.Intn(7)/5
	case impl.EvSend:
		e = d.sending(c, other)
	case impl.EvGet:
		e.Packet = d.packet(other)
	case impl.EvTell, impl.EvLate:
		e.N = d.ownPacket(c)
	case impl.EvStep:
		e.N = []int{1, 2, 3, 4, 6, 7, 7, 7, d.Intn(9)}[d.Intn(9)]
	case impl.EvMove:
		e = moveOn(0, 1+d.Intn(2), 1+d.Intn(3), 1+d.Intn(3), d.Intn(5))
	}
	e.Chain = c.Id
	return e
}

// event is an event for a run. Most are drawn again while they have no effect, relayed ones ahead of others; one of fifty has fields without regard to the run.
func (d drawer) event(w impl.World) impl.Event {
	if d.Intn(50) == 0 {
		return impl.Event{Kind: d.Intn(11), Chain: d.Intn(5) - 1, Height: d.Intn(9) - 1, N: d.Intn(9), Packet: d.packet(w.Chains[0])}
	}
	relayed := []int{impl.EvGet, impl.EvTell, impl.EvLate, impl.EvStep}
	others := []int{impl.EvBlock, impl.EvBlock, impl.EvKnow, impl.EvKnow, impl.EvKnow, impl.EvSend, impl.EvSend, impl.EvMove, d.Intn(12) - 1}
	if e, ok := d.possible(w, relayed, d.Intn(16)); ok {
		return e
	}
	e, _ := d.possible(w, others, 1+d.Intn(8))
	return e
}

// possible is an event of one of these kinds, and whether it has an effect; it is drawn so many times at most.
func (d drawer) possible(w impl.World, kinds []int, times int) (impl.Event, bool) {
	var e impl.Event
	for range times {
		id := d.Intn(2)
		e = d.kindOf(kinds[d.Intn(len(kinds))], w.Chains[id], w.Chains[1-id])
		if !sameWorld(wantDo(w, e), w) {
			return e, true
		}
	}
	return e, false
}

// drawnRun is a run from WorldNew on, with what has happened in it.
type drawnRun struct {
	world  impl.World
	events []impl.Event
	past   [2][]impl.State
	tried  []impl.Event
	seen   map[string]int
}

// drawRun draws a run of PlayMax events and shows each event, with the run ahead of it and behind it.
func drawRun(seed int, show func(before, after impl.World, e impl.Event)) (impl.World, []impl.Event) {
	d := drawerOf(seed)
	w, events := impl.WorldNew(), d.start(seed)
	for i := range impl.PlayMax {
		if i == len(events) {
			events = append(events, d.event(w))
		}
		before := w
		w = impl.WorldDo(w, events[i])
		show(before, w, events[i])
	}
	return w, events
}

func showNothing(before, after impl.World, e impl.Event) {}

// count counts what an event has brought about, so that a test can tell whether its runs come far.
func (r *drawnRun) count(before, after impl.World, e impl.Event) {
	if sameWorld(before, after) {
		r.seen["nothing"]++
		return
	}
	c, d := before.Chains[e.Chain-1], after.Chains[e.Chain-1]
	r.seen[fmt.Sprint("kind ", e.Kind)]++
	switch e.Kind {
	case impl.EvGet:
		r.seen[fmt.Sprint("got ", d.State.Got[e.Packet.Seq-1], " of kind ", e.Packet.Kind)]++
	case impl.EvTell:
		r.seen[fmt.Sprint("told ", impl.StateSettled(d.State, e.N))]++
	case impl.EvStep:
		r.seen[fmt.Sprint("step ", e.N)]++
		if e.N == impl.StepFresh && len(c.State.Sent) > 0 {
			r.seen["upgraded behind packets"]++
		}
	}
	if first, second := after.Chains[0].State, after.Chains[1].State; first.Way == impl.WayFlush && second.Way == impl.WayFlush {
		r.seen["upgrade at both ends"]++
	}
}

// follow takes an event in and checks what the promises say of the run then.
func (r *drawnRun) follow(t *testing.T, before, after impl.World, e impl.Event) {
	r.count(before, after, e)
	r.events = append(r.events, e)
	r.world = after
	if e.Kind == impl.EvBlock && (e.Chain == 1 || e.Chain == 2) {
		r.past[e.Chain-1] = append(r.past[e.Chain-1], copyState(before.Chains[e.Chain-1].State))
	}
	if relayed := e.Kind == impl.EvGet || e.Kind == impl.EvTell || e.Kind == impl.EvLate; relayed && !sameWorld(before, after) {
		r.tried = append(r.tried, e)
		mustNotChange(t, after, e)
	}
	checkStanding(t, after)
	checkWays(t, before, after)
	r.checkPast(t)
	r.checkUnsent(t)
	if t.Failed() {
		t.Fatalf("after %+v", r.events)
	}
}

// pairs calls a function with each chain and the other one.
func pairs(w impl.World, each func(c, other impl.Chain)) {
	each(w.Chains[0], w.Chains[1])
	each(w.Chains[1], w.Chains[0])
}

// checkStanding is what P57 to P59, P62, P67, P69 and P70 say of a run, however it has come about.
func checkStanding(t *testing.T, w impl.World) {
	t.Helper()
	checkNeverBoth(t, w)
	checkVersions(t, w)
	checkKnown(t, w)
	checkTimeouts(t, w)
	checkSent(t, w)
}

// checkNeverBoth is what P57 and P70 say.
func checkNeverBoth(t *testing.T, w impl.World) {
	t.Helper()
	pairs(w, func(c, other impl.Chain) {
		for i, p := range c.State.Sent {
			received := other.State.Got[i] == impl.GotOk
			if c.State.Back[i] && received {
				t.Errorf("received and refunded: %v", p)
			}
			if !c.State.Live[i] && c.State.Back[i] == received {
				t.Errorf("settled, but neither received nor refunded: %v", p)
			}
			if impl.StateSettled(c.State, i+1) == 2 && !received {
				t.Errorf("acknowledged, but not received: %v", p)
			}
		}
	})
}

// checkVersions is what P58 and P59 say.
func checkVersions(t *testing.T, w impl.World) {
	t.Helper()
	pairs(w, func(c, other impl.Chain) {
		s, o := c.State, other.State
		if s.Ver > o.Ver+1 {
			t.Errorf("versions %d and %d", s.Ver, o.Ver)
		}
		for i, p := range s.Sent {
			if s.Live[i] && (p.Ver != s.Ver || p.Ver != o.Ver && p.Ver != o.Ver+1) {
				t.Errorf("versions %d and %d, and in flight %v", s.Ver, o.Ver, p)
			}
		}
		if s.Way >= impl.WayOpen && o.Way < impl.WayTry {
			t.Errorf("one end in %d, the other one in %d", s.Way, o.Way)
		}
	})
}

// checkKnown is what P62 says.
func checkKnown(t *testing.T, w impl.World) {
	t.Helper()
	pairs(w, func(c, other impl.Chain) {
		for i, height := range c.Knows {
			if height < 1 || height > len(other.Past) || i > 0 && height <= c.Knows[i-1] {
				t.Errorf("known of %d heights: %v", len(other.Past), c.Knows)
			}
		}
	})
}

// gotIn is the height in which a chain has received a packet of the other one, or 0; the height that has not ended counts, too.
func gotIn(c impl.Chain, seq int) int {
	for i, s := range append(slices.Clone(c.Past), c.State) {
		if s.Got[seq-1] != impl.GotNone {
			return i + 1
		}
	}
	return 0
}

// checkTimeouts is what P67 says.
func checkTimeouts(t *testing.T, w impl.World) {
	t.Helper()
	pairs(w, func(c, other impl.Chain) {
		for i, p := range c.State.Sent {
			if gotIn(other, p.Seq) >= p.Until {
				t.Errorf("received in height %d: %v", gotIn(other, p.Seq), p)
			}
			if c.State.Back[i] && p.Until <= len(other.Past) && other.Past[p.Until-1].Got[i] == impl.GotOk {
				t.Errorf("refunded, but received at its timeout: %v", p)
			}
		}
	})
}

// checkSent is what P69 says.
func checkSent(t *testing.T, w impl.World) {
	t.Helper()
	for _, c := range w.Chains {
		ver := 1
		for i, p := range c.State.Sent {
			if p.Seq != i+1 || p.Ver < ver || p.Ver > c.State.Ver || c.State.Way < impl.WayOpen {
				t.Errorf("packet %d of Way %d in version %d: %v", i+1, c.State.Way, c.State.Ver, p)
			}
			ver = p.Ver
		}
	}
}

// checkPast is what P66 and P68 say, from height to height and on to the state.
func (r *drawnRun) checkPast(t *testing.T) {
	t.Helper()
	for i, c := range r.world.Chains {
		if !slices.EqualFunc(c.Past, r.past[i], sameState) {
			t.Errorf("heights %v, not %v", c.Past, r.past[i])
		}
		before := impl.StateNew()
		for _, s := range append(slices.Clone(c.Past), c.State) {
			checkFollows(t, before, s)
			before = s
		}
	}
}

// checkFollows checks that nothing that is final in a state is lost in a later one.
func checkFollows(t *testing.T, before, after impl.State) {
	t.Helper()
	n := len(before.Sent)
	if len(after.Sent) < n || !slices.Equal(after.Sent[:n], before.Sent) {
		t.Errorf("sent packets lost: %v, then %v", before, after)
	}
	for seq := 1; seq <= impl.SeqMax; seq++ {
		if before.Got[seq-1] != impl.GotNone && after.Got[seq-1] != before.Got[seq-1] {
			t.Errorf("entry of Got not final: %v, then %v", before, after)
		}
		if fate := impl.StateSettled(before, seq); fate >= 2 && impl.StateSettled(after, seq) != fate {
			t.Errorf("packet %d not settled any more: %v, then %v", seq, before, after)
		}
	}
	onward := after.Ver == before.Ver && after.Way >= before.Way
	upgraded := after.Ver > before.Ver && before.Way >= impl.WayTry && after.Way >= impl.WayOpen
	if !onward && !upgraded {
		t.Errorf("Way %d in version %d, then Way %d in version %d", before.Way, before.Ver, after.Way, after.Ver)
	}
}

// checkWays is what P68 says, from event to event: within a height, an end can be upgraded twice.
func checkWays(t *testing.T, before, after impl.World) {
	t.Helper()
	onward := [5][]int{impl.WayNone: {0, 1, 2}, impl.WayInit: {1, 2, 3}, impl.WayTry: {2, 3}, impl.WayOpen: {3, 4}, impl.WayFlush: {4}}
	for i, c := range before.Chains {
		s, o := c.State, after.Chains[i].State
		upgraded := s.Way == impl.WayFlush && o.Way == impl.WayOpen && o.Ver == s.Ver+1
		if !upgraded && (o.Ver != s.Ver || !slices.Contains(onward[s.Way], o.Way)) {
			t.Errorf("Way %d in version %d, then Way %d in version %d", s.Way, s.Ver, o.Way, o.Ver)
		}
	}
}

// checkUnsent is what P63 says, of one packet for each chain and of the last height that it knows; all of them would take long.
func (r *drawnRun) checkUnsent(t *testing.T) {
	t.Helper()
	n := len(r.events)
	for i, c := range r.world.Chains {
		unsent := unsentPackets(r.world.Chains[1-i])
		e := getOn(i+1, 1, unsent[n*7%len(unsent)])
		if len(c.Knows) > 0 {
			e.Height = c.Knows[len(c.Knows)-1]
		}
		checkNothing(t, r.world, e)
	}
}

// unsentPackets are packets that a chain has not sent, most of them alike to one that it has.
func unsentPackets(c impl.Chain) []impl.Packet {
	out := []impl.Packet{variedPacket(min(len(c.State.Sent)+1, impl.SeqMax)), alikePacket(1), alikePacket(8)}
	for _, p := range c.State.Sent {
		for _, f := range packetFields {
			for _, n := range []int{f.low, f.high, *f.of(&p) + 1, *f.of(&p) - 1} {
				out = append(out, changed(p, f, n))
			}
		}
	}
	return slices.DeleteFunc(out, func(p impl.Packet) bool { return slices.Contains(c.State.Sent, p) })
}

// checkNothing checks that an event changes nothing, without the further checks of mustNotChange.
func checkNothing(t *testing.T, w impl.World, e impl.Event) {
	t.Helper()
	if got := impl.WorldDo(w, e); !sameWorld(got, w) {
		t.Errorf("%+v changes %v to %v", e, w, got)
	}
}

// checkEnd is what P56, P63 and P71 say of the whole run.
func (r *drawnRun) checkEnd(t *testing.T) {
	t.Helper()
	if got, ok := impl.WorldPlay(r.events); !ok || !sameWorld(got, r.world) {
		t.Errorf("WorldPlay gives %v, %v, not %v", got, ok, r.world)
	}
	for _, e := range r.tried {
		checkNothing(t, r.world, e)
	}
	for i := range r.world.Chains {
		n := len(r.world.Chains[1-i].Past)
		for _, p := range unsentPackets(r.world.Chains[1-i]) {
			for _, height := range []int{0, 1, 1 + p.Until*n/91, n - 1, n, n + 1} {
				checkNothing(t, r.world, getOn(i+1, height, p))
			}
		}
	}
	if t.Failed() {
		t.Fatalf("after %+v", r.events)
	}
}
