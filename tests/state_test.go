package tests

import (
	"slices"
	"testing"

	"loop.example/hawser/impl"
)

// checkNoState checks that a state is refused, and that nothing is found in it.
func checkNoState(t *testing.T, name string, s impl.State) {
	t.Helper()
	if impl.StateOk(s) {
		t.Errorf("%s: accepted: %v", name, s)
	}
	if live := impl.StateLive(s); len(live) != 0 {
		t.Errorf("%s: %v in flight: %v", name, live, s)
	}
	for _, seq := range seqs {
		if got, settled := impl.StateGot(s, seq), impl.StateSettled(s, seq); got != impl.GotNone || settled != 0 {
			t.Errorf("%s: packet %d: got %d, settled %d: %v", name, seq, got, settled, s)
		}
	}
	for _, p := range append([]impl.Packet{{}, alikePacket(1), variedPacket(1)}, s.Sent...) {
		if impl.StateHas(s, p) {
			t.Errorf("%s: has %v: %v", name, p, s)
		}
	}
}

func TestStateNumbers(t *testing.T) {
	if !slices.Equal(ways, []int{0, 1, 2, 3, 4}) || !slices.Equal(gots, []int{0, 1, 2}) {
		t.Error(ways, gots)
	}
}

// P21
func TestStateNew(t *testing.T) {
	s := impl.StateNew()
	if !impl.StateOk(s) || !sameState(s, impl.State{Ver: 1, Got: make([]int, 8)}) {
		t.Error(s)
	}
	if live := impl.StateLive(s); len(live) != 0 {
		t.Error("in flight", live)
	}
	for _, seq := range seqs {
		if impl.StateSettled(s, seq) != 0 || impl.StateGot(s, seq) != impl.GotNone || impl.StateHas(s, alikePacket(seq)) {
			t.Error("packet", seq)
		}
	}
}

// General rules: an empty list may be nil or not.
func TestStateEmptyLists(t *testing.T) {
	s := impl.StateNew()
	s.Sent, s.Live, s.Back = nil, nil, nil
	if !impl.StateOk(s) {
		t.Error("nil lists refused")
	}
	s.Sent, s.Live, s.Back = []impl.Packet{}, []bool{}, []bool{}
	if !impl.StateOk(s) {
		t.Error("empty lists refused")
	}
	s.Sent, s.Back = nil, nil
	if !impl.StateOk(s) || len(impl.StateLive(s)) != 0 {
		t.Error("some lists nil, others empty: refused")
	}
}

// P20, P21: ordinary states, with the edges that the chapter names.
func TestStateOk(t *testing.T) {
	for _, m := range validStates() {
		if !impl.StateOk(m.state) {
			t.Error("refused", m)
		}
	}
}

// P20, P23, and what the chapter requires besides.
func TestStateNotOk(t *testing.T) {
	for _, m := range fewStates() {
		for _, bad := range invalidStates(m.state) {
			checkNoState(t, bad.name, bad.state)
		}
	}
}

// P20
func TestStateWant(t *testing.T) {
	numbers := append([]int{-2, -1, 0, 1, 2, 3, 4, 5, 6, 7, 8, 9, 10, 11}, farNumbers...)
	for _, fates := range []string{"", "lbd", "llllllll"} {
		for _, way := range numbers {
			for _, ver := range numbers {
				for _, want := range numbers {
					s := makeState(impl.WayOpen, 1, fates, variedPacket, func(int) int { return 1 }, gotLists[3]).state
					s.Way, s.Ver, s.Want = way, ver, want
					ok := way >= 0 && way <= 3 && ver >= 1 && ver <= 9 && want == 0 ||
						way == 4 && ver >= 1 && ver <= 8 && want == ver+1
					if impl.StateOk(s) != ok {
						t.Errorf("Way %d, Ver %d, Want %d: %v", way, ver, want, !ok)
					}
				}
			}
		}
	}
}

// P20: each packet in turn is of each version.
func TestStateVersions(t *testing.T) {
	for ver := 1; ver <= 9; ver++ {
		for at := range 8 {
			for packetVer := 0; packetVer <= 10; packetVer++ {
				m := makeState(impl.WayOpen, ver, "lbdlbdlb", variedPacket, func(int) int { return 1 }, gotLists[0])
				m.state.Sent[at].Ver = packetVer
				if ok := packetVer >= 1 && packetVer <= ver; impl.StateOk(m.state) != ok {
					t.Errorf("Ver %d, packet %d of version %d: %v", ver, at+1, packetVer, !ok)
				}
			}
		}
	}
}

// P20: versions of packets may be in any order.
func TestStateVersionOrder(t *testing.T) {
	vers := []int{3, 1, 2, 9, 1, 9, 4, 1}
	m := makeState(impl.WayTry, 9, "ldbldbld", variedPacket, func(seq int) int { return vers[seq-1] }, gotLists[0])
	if !impl.StateOk(m.state) || !slices.Equal(impl.StateLive(m.state), []int{1, 4, 7}) {
		t.Error(impl.StateOk(m.state), impl.StateLive(m.state))
	}
}

// P20, P23: of the four pairs of Live and Back, only both is refused.
func TestStateLiveAndBack(t *testing.T) {
	for _, m := range validStates() {
		for i := range m.state.Sent {
			for _, live := range []bool{false, true} {
				for _, back := range []bool{false, true} {
					s := changedState(m.state, func(s *impl.State) { s.Live[i], s.Back[i] = live, back })
					if impl.StateOk(s) == (live && back) {
						t.Errorf("packet %d, Live %v, Back %v: %v", i+1, live, back, s)
					}
				}
			}
		}
	}
}

// P21
func TestStateFewerPackets(t *testing.T) {
	for _, m := range validStates() {
		for n := range m.state.Sent {
			s := firstPackets(m.state, n)
			if !impl.StateOk(s) || impl.StateSettled(s, n+1) != 0 || impl.StateHas(s, m.state.Sent[n]) {
				t.Errorf("with %d packets: %v", n, s)
			}
		}
	}
}

// P21: a packet that is there again, at any place, with its own fate or another one.
func TestStateRepeatedPacket(t *testing.T) {
	for _, m := range fewStates() {
		s := m.state
		for i, p := range s.Sent {
			for at := range len(s.Sent) + 1 {
				checkNoState(t, "repeated", morePackets(s, at, p, s.Live[i], s.Back[i]))
				checkNoState(t, "repeated and settled", morePackets(s, at, p, false, false))
			}
		}
	}
}

// P23
func TestStateGotEntries(t *testing.T) {
	for _, m := range fewStates() {
		for i := range m.state.Got {
			for entry := -3; entry <= 6; entry++ {
				s := changedState(m.state, func(s *impl.State) { s.Got[i] = entry })
				if ok := entry >= 0 && entry <= 2; impl.StateOk(s) != ok {
					t.Errorf("entry %d of %d: %v", i, entry, s)
				}
			}
		}
	}
}

// P16: the packets themselves, each with another value of a field, and others.
func TestStateHas(t *testing.T) {
	for _, m := range validStates() {
		for seq := -1; seq <= 10; seq++ {
			checkHas(t, m, variedPacket(seq))
			checkHas(t, m, alikePacket(seq))
		}
		checkHas(t, m, impl.Packet{})
		for _, p := range m.state.Sent {
			checkHas(t, m, p)
			for _, f := range packetFields {
				value := *f.of(&p)
				for _, n := range []int{value - 1, value + 1, f.low, f.high, 0, -value, 1<<32 + value} {
					checkHas(t, m, changed(p, f, n))
				}
			}
		}
	}
}

func checkHas(t *testing.T, m madeState, p impl.Packet) {
	t.Helper()
	if impl.StateHas(m.state, p) != m.wantHas(p) {
		t.Errorf("%v: %v in %v", !m.wantHas(p), p, m)
	}
}

// P16: a packet in flight with any other amount or recipient in range, which would be valid as well.
func TestStateHasOtherAmountOrRecipient(t *testing.T) {
	m := makeState(impl.WayOpen, 2, "llllllll", variedPacket, func(int) int { return 2 }, gotLists[0])
	for _, p := range m.state.Sent {
		for sum := 1; sum <= 9; sum++ {
			for to := 0; to <= 3; to++ {
				q := p
				q.Sum, q.To = sum, to
				if impl.StateHas(m.state, q) != (q == p) {
					t.Error(q, p)
				}
			}
		}
	}
}

// P17
func TestStateGot(t *testing.T) {
	for _, m := range validStates() {
		for _, seq := range seqs {
			want := impl.GotNone
			if seq >= 1 && seq <= 8 {
				want = m.state.Got[seq-1]
			}
			if got := impl.StateGot(m.state, seq); got != want {
				t.Errorf("packet %d: %d: %v", seq, got, m)
			}
		}
	}
}

// P17: what the chain itself sent is not asked for.
func TestStateGotOfNoPackets(t *testing.T) {
	s := impl.StateNew()
	s.Got = []int{1, 2, 0, 0, 2, 1, 0, 2}
	var got []int
	for seq := 0; seq <= 9; seq++ {
		got = append(got, impl.StateGot(s, seq))
	}
	if !slices.Equal(got, []int{0, 1, 2, 0, 0, 2, 1, 0, 2, 0}) {
		t.Error(got)
	}
}

// P18
func TestStateSettled(t *testing.T) {
	for _, m := range validStates() {
		for _, seq := range seqs {
			if settled := impl.StateSettled(m.state, seq); settled != m.wantSettled(seq) {
				t.Errorf("packet %d: %d: %v", seq, settled, m)
			}
		}
	}
}

// P18: what the other chain's packets came to does not matter.
func TestStateSettledWhateverWasGot(t *testing.T) {
	for _, got := range gotLists {
		m := makeState(impl.WayOpen, 1, "ldb", alikePacket, func(int) int { return 1 }, got)
		for seq, want := range []int{0, 1, 2, 3, 0} {
			if settled := impl.StateSettled(m.state, seq); settled != want {
				t.Errorf("packet %d: %d, with %v", seq, settled, got)
			}
		}
	}
}

// P19
func TestStateLive(t *testing.T) {
	for _, m := range validStates() {
		live := impl.StateLive(m.state)
		if !slices.Equal(live, m.wantLive()) {
			t.Errorf("%v in flight: %v", live, m)
		}
		for _, seq := range live {
			if !impl.StateHas(m.state, m.state.Sent[seq-1]) {
				t.Errorf("packet %d is in flight, but not there: %v", seq, m)
			}
		}
	}
}

// P16, P18, P19: the functions tell the same of each packet.
func TestStateFit(t *testing.T) {
	for _, m := range validStates() {
		live := impl.StateLive(m.state)
		for i, p := range m.state.Sent {
			settled := impl.StateSettled(m.state, i+1)
			if has := impl.StateHas(m.state, p); has != (settled == 1) || has != slices.Contains(live, i+1) {
				t.Errorf("packet %d: has %v, settled %d, in flight %v: %v", i+1, has, settled, live, m)
			}
			if settled < 1 || settled > 3 || m.state.Back[i] != (settled == 3) {
				t.Errorf("packet %d: settled %d: %v", i+1, settled, m)
			}
		}
	}
}

// P22
func TestStatePacketsDiffer(t *testing.T) {
	for _, m := range validStates() {
		for i, p := range m.state.Sent {
			for j := range i {
				q := p
				q.Seq = j + 1
				if p == m.state.Sent[j] || impl.StateHas(m.state, q) && q != m.state.Sent[j] {
					t.Errorf("packets %d and %d: %v", i+1, j+1, m)
				}
			}
		}
		for _, seq := range seqs {
			if seq <= len(m.state.Sent) {
				continue
			}
			if impl.StateSettled(m.state, seq) != 0 || impl.StateHas(m.state, alikePacket(seq)) || slices.Contains(impl.StateLive(m.state), seq) {
				t.Errorf("packet %d was not sent: %v", seq, m)
			}
		}
	}
}

// General rules: arguments stay as they are, also beyond the length of their lists, and nothing there is looked at.
func TestStateArguments(t *testing.T) {
	for _, m := range fewStates() {
		s := roomyState(m.state)
		before := copyState(wholeState(s))
		if !impl.StateOk(s) || !slices.Equal(impl.StateLive(s), m.wantLive()) {
			t.Errorf("with spare capacity: %v", m)
		}
		for _, seq := range seqs {
			impl.StateGot(s, seq)
			if impl.StateSettled(s, seq) != m.wantSettled(seq) || impl.StateHas(s, variedPacket(seq)) != m.wantHas(variedPacket(seq)) {
				t.Errorf("packet %d with spare capacity: %v", seq, m)
			}
		}
		fill(impl.StateLive(s), 555)
		if !sameState(wholeState(s), before) {
			t.Errorf("changed: %v", m)
		}
	}
}

// General rules: no two results share memory.
func TestStateResultsApart(t *testing.T) {
	fill(impl.StateNew().Got, 555)
	if s := impl.StateNew(); !slices.Equal(s.Got, make([]int, 8)) {
		t.Error("StateNew", s)
	}
	s := makeState(impl.WayOpen, 1, "ldlb", variedPacket, func(int) int { return 1 }, gotLists[0]).state
	first := impl.StateLive(s)
	second := impl.StateLive(s)
	fill(first, 555)
	if !slices.Equal(second, []int{1, 3}) || !slices.Equal(impl.StateLive(s), []int{1, 3}) {
		t.Error("StateLive", second)
	}
}
