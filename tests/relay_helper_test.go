package tests

import (
	"slices"
	"strings"
	"testing"

	"loop.example/hawser/impl"
)

// paid is a bank after an amount was given to a user, and whether it can be, written out from the specification.
func paid(b impl.Bank, kind, user, sum int) (impl.Bank, bool) {
	switch {
	case user < 1 || user > 3, kind == 1 && b.Locked < sum, kind == 2 && total(b.Notes)+sum > 30:
		return b, false
	case kind == 1:
		b = withLocked(b, -sum)
	}
	return with(b, kind, user, sum), true
}

// wantGet says whether a valid chain must receive a valid packet, written out from the specification.
func wantGet(c impl.Chain, other impl.State, p impl.Packet) bool {
	i := slices.Index(other.Sent, p)
	return (c.State.Way == 3 || c.State.Way == 4) && i >= 0 && other.Live[i] && c.State.Got[p.Seq-1] == 0 &&
		p.Ver == c.State.Ver && len(c.Past)+1 < p.Until
}

// afterGet is a chain after it has received a packet.
func afterGet(c impl.Chain, p impl.Packet) impl.Chain {
	return changedChain(c, func(c *impl.Chain) {
		b, ok := paid(c.Bank, 3-p.Kind, p.To, p.Sum)
		c.Bank, c.State.Got[p.Seq-1] = b, 2
		if ok {
			c.State.Got[p.Seq-1] = 1
		}
	})
}

// flying says whether a packet of the chain itself is in flight.
func flying(c impl.Chain, seq int) bool {
	return seq >= 1 && seq <= len(c.State.Sent) && c.State.Live[seq-1]
}

func wantTell(c impl.Chain, other impl.State, seq int) bool {
	return flying(c, seq) && other.Got[seq-1] != 0
}

func wantLate(c impl.Chain, other impl.State, height, seq int) bool {
	return flying(c, seq) && height >= c.State.Sent[seq-1].Until && other.Got[seq-1] == 0
}

// afterSettled is a chain with a packet no longer in flight, and refunded or not.
func afterSettled(c impl.Chain, seq int, back bool) impl.Chain {
	return changedChain(c, func(c *impl.Chain) {
		c.State.Live[seq-1] = false
		if back {
			p := c.State.Sent[seq-1]
			c.State.Back[seq-1] = true
			c.Bank, _ = paid(c.Bank, p.Kind, p.From, p.Sum)
		}
	})
}

// relaying is a call of a function of the chapter with all arguments but the chain and the state of the other one.
type relaying func(c impl.Chain, other impl.State) (impl.Chain, bool)

func getOf(p impl.Packet) relaying {
	return func(c impl.Chain, other impl.State) (impl.Chain, bool) { return impl.RelayGet(c, other, p) }
}

func tellOf(seq int) relaying {
	return func(c impl.Chain, other impl.State) (impl.Chain, bool) { return impl.RelayTell(c, other, seq) }
}

func lateOf(height, seq int) relaying {
	return func(c impl.Chain, other impl.State) (impl.Chain, bool) {
		return impl.RelayLate(c, other, height, seq)
	}
}

func stepOf(step int) relaying {
	return func(c impl.Chain, other impl.State) (impl.Chain, bool) { return impl.RelayStep(c, other, step) }
}

// checkRelay checks a call with a valid chain and state that must give this, and returns the result.
func checkRelay(t *testing.T, name string, c impl.Chain, other impl.State, relay relaying, want impl.Chain, wantOk bool) impl.Chain {
	t.Helper()
	before, otherBefore := copyChain(c), copyState(other)
	got, ok := relay(c, other)
	if ok != wantOk || !sameChain(got, want) {
		t.Errorf("%s gives %v, %v, not %v, %v: %v, by %v", name, ok, got, wantOk, want, before, other)
	}
	if !impl.ChainOk(got) {
		t.Errorf("%s: the result is not valid: %v, by %v", name, before, other)
	}
	if !sameChain(c, before) || !sameState(other, otherBefore) {
		t.Errorf("%s changed an argument: %v, by %v", name, before, otherBefore)
	}
	return got
}

// checkZero checks that a call gives the zero value and false.
func checkZero(t *testing.T, name string, c impl.Chain, other impl.State, relay relaying) {
	t.Helper()
	if got, ok := relay(c, other); ok || !zeroChain(got) {
		t.Errorf("%s gives %v, %v: %v, by %v", name, got, ok, c, other)
	}
}

// checkGet checks what a valid chain makes of a valid packet, whether it receives it or not.
func checkGet(t *testing.T, c impl.Chain, other impl.State, p impl.Packet) impl.Chain {
	t.Helper()
	ok, want := wantGet(c, other, p), c
	if ok {
		want = afterGet(c, p)
	}
	return checkRelay(t, "RelayGet of "+wantText(p), c, other, getOf(p), copyChain(want), ok)
}

func mustGet(t *testing.T, c impl.Chain, other impl.State, p impl.Packet) impl.Chain {
	t.Helper()
	if !wantGet(c, other, p) {
		t.Fatalf("wrong case: %v is not to be received: %v, by %v", p, c, other)
	}
	return checkGet(t, c, other, p)
}

func mustNotGet(t *testing.T, c impl.Chain, other impl.State, p impl.Packet) {
	t.Helper()
	if wantGet(c, other, p) {
		t.Fatalf("wrong case: %v is to be received: %v, by %v", p, c, other)
	}
	checkGet(t, c, other, p)
}

// checkTell checks what a valid chain makes of an acknowledgement, whether there is one or not.
func checkTell(t *testing.T, c impl.Chain, other impl.State, seq int) impl.Chain {
	t.Helper()
	ok, want := wantTell(c, other, seq), c
	if ok {
		want = afterSettled(c, seq, other.Got[seq-1] == 2)
	}
	return checkRelay(t, "RelayTell", c, other, tellOf(seq), copyChain(want), ok)
}

func mustTell(t *testing.T, c impl.Chain, other impl.State, seq int) impl.Chain {
	t.Helper()
	if !wantTell(c, other, seq) {
		t.Fatalf("wrong case: packet %d is not acknowledged: %v, by %v", seq, c, other)
	}
	return checkTell(t, c, other, seq)
}

// checkLate checks what a valid chain makes of a height, whether it is late enough or not.
func checkLate(t *testing.T, c impl.Chain, other impl.State, height, seq int) impl.Chain {
	t.Helper()
	ok, want := wantLate(c, other, height, seq), c
	if ok {
		want = afterSettled(c, seq, true)
	}
	return checkRelay(t, "RelayLate", c, other, lateOf(height, seq), copyChain(want), ok)
}

func mustLate(t *testing.T, c impl.Chain, other impl.State, height, seq int) impl.Chain {
	t.Helper()
	if !wantLate(c, other, height, seq) {
		t.Fatalf("wrong case: packet %d does not time out: %v, by %v", seq, c, other)
	}
	return checkLate(t, c, other, height, seq)
}

// checkRelayStep checks what a valid chain makes of a step that it may do or not.
func checkRelayStep(t *testing.T, c impl.Chain, other impl.State, step int, may bool) impl.Chain {
	t.Helper()
	want := c
	if may {
		want = changedChain(c, func(c *impl.Chain) { c.State = wantDone(c.State, step) })
	}
	return checkRelay(t, "RelayStep", c, other, stepOf(step), copyChain(want), may)
}

// taker is a chain that can pay every packet of either kind to every user.
func taker(way, ver, heights int) impl.Chain {
	return chainOf(2, bank([]int{6, 7, 8}, []int{5, 6, 4}, 9), endOf(way, ver, "ldb").state, heights, []int{2, 5})
}

// offer is a state in which this packet is the last one that was sent, in flight as the only one.
func offer(p impl.Packet) impl.State {
	s := endOf(impl.WayOpen, p.Ver, strings.Repeat("db", 4)[:p.Seq-1]+"l").state
	s.Sent[p.Seq-1] = p
	return s
}

// sender is a chain that has sent packets, all of them still in flight, and can refund each of them.
func sender(packets ...impl.Packet) impl.Chain {
	c := chainOf(1, bank([]int{7, 7, 7}, []int{7, 7, 7}, 9), endOf(impl.WayOpen, 9, strings.Repeat("l", len(packets))).state, 2, []int{3, 40})
	copy(c.State.Sent, packets)
	return c
}

// received is a state that has this entry of Got for a packet, and others for all other ones.
func received(seq, entry int) impl.State {
	s := endOf(impl.WayOpen, 1, "").state
	for i := range s.Got {
		s.Got[i] = (entry + 1) % 3
	}
	s.Got[seq-1] = entry
	return s
}

// noHeights are numbers that are no height.
var noHeights = append([]int{0, -1, -90, 91, 92, 180, 1<<8 + 90, 1<<16 + 90, 1<<32 + 90}, farNumbers...)

// twoPackets are packets of either kind.
func twoPackets(seq, until int) []impl.Packet {
	return []impl.Packet{
		{Seq: seq, Kind: impl.CoinOwn, From: 1, To: 2, Sum: 3, Until: until, Ver: 1},
		{Seq: seq, Kind: impl.CoinNote, From: 3, To: 1, Sum: 9, Until: until, Ver: 1},
	}
}

// otherStates are states of the other chain of every Way, each with other packets and entries of Got.
func otherStates() []impl.State {
	var out []impl.State
	for i, m := range madeStates {
		if i%13 == 0 {
			out = append(out, m.state)
		}
	}
	return out
}

// relayCalls are calls of each function: with a taker or a sender, some have an effect and some have none.
func relayCalls() map[string]relaying {
	p := variedPacket(1)
	return map[string]relaying{
		"RelayGet":                  getOf(p),
		"RelayGet of another":       getOf(changed(p, packetFields[4], 9)),
		"RelayTell":                 tellOf(1),
		"RelayTell of no packet":    tellOf(9),
		"RelayLate":                 lateOf(90, 1),
		"RelayLate, too early":      lateOf(1, 1),
		"RelayStep, StepNew":        stepOf(impl.StepNew),
		"RelayStep, StepAlso":       stepOf(impl.StepAlso),
		"RelayStep of no such step": stepOf(0),
	}
}
