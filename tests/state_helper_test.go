package tests

import (
	"math"
	"slices"

	"loop.example/hawser/impl"
)

var (
	ways = []int{impl.WayNone, impl.WayInit, impl.WayTry, impl.WayOpen, impl.WayFlush}
	gots = []int{impl.GotNone, impl.GotOk, impl.GotBad}
)

// farNumbers are at the ends of what an int holds, or come into a small range if their upper bits are lost.
var farNumbers = []int{math.MaxInt, math.MaxInt - 1, math.MinInt, math.MinInt + 1, 1 << 8, 1<<8 + 1, 1 << 16, 1<<16 + 1, 1 << 32, 1<<32 + 1}

// seqs are numbers of packets, and others around them.
var seqs = append([]int{-9, -8, -2, -1, 0, 1, 2, 3, 4, 5, 6, 7, 8, 9, 10, 16, 90}, farNumbers...)

// madeState is a valid state, with the fate of each packet that it was made with: l is in flight, b refunded, d settled otherwise.
type madeState struct {
	state impl.State
	fates string
}

// wantSettled is what StateSettled must tell of a packet.
func (m madeState) wantSettled(seq int) int {
	if seq < 1 || seq > len(m.fates) {
		return 0
	}
	return map[byte]int{'l': 1, 'd': 2, 'b': 3}[m.fates[seq-1]]
}

// wantHas says whether a packet is one of those in flight.
func (m madeState) wantHas(p impl.Packet) bool {
	i := slices.Index(m.state.Sent, p)
	return i >= 0 && m.fates[i] == 'l'
}

// wantLive lists the packets in flight.
func (m madeState) wantLive() []int {
	var out []int
	for i := range m.fates {
		if m.fates[i] == 'l' {
			out = append(out, i+1)
		}
	}
	return out
}

// makeState is a valid state, whose packets have these versions.
func makeState(way, ver int, fates string, packet func(seq int) impl.Packet, vers func(seq int) int, got []int) madeState {
	s := impl.State{Way: way, Ver: ver, Got: slices.Clone(got)}
	if way == impl.WayFlush {
		s.Want = ver + 1
	}
	for i := range fates {
		p := packet(i + 1)
		p.Ver = vers(i + 1)
		s.Sent = append(s.Sent, p)
		s.Live = append(s.Live, fates[i] == 'l')
		s.Back = append(s.Back, fates[i] == 'b')
	}
	return madeState{s, fates}
}

// variedPacket has other fields for each number, among them recipient 0 and the ends of the ranges.
func variedPacket(seq int) impl.Packet {
	return impl.Packet{Seq: seq, Kind: 1 + seq%2, From: 1 + seq%3, To: seq % 4, Sum: 1 + seq, Until: 10 + 10*seq, Ver: 1}
}

// alikePacket differs from the other ones by its number alone.
func alikePacket(seq int) impl.Packet {
	return impl.Packet{Seq: seq, Kind: 1, From: 2, To: 3, Sum: 1, Until: 1, Ver: 1}
}

// versionsOf are ways to give versions to the packets of a state: of its own, of the first one, and in either order.
func versionsOf(ver int) []func(seq int) int {
	return []func(seq int) int{
		func(int) int { return ver },
		func(int) int { return 1 },
		func(seq int) int { return min(seq, ver) },
		func(seq int) int { return max(ver+1-seq, 1) },
	}
}

var gotLists = [][]int{
	{0, 0, 0, 0, 0, 0, 0, 0},
	{1, 1, 1, 1, 1, 1, 1, 1},
	{2, 2, 2, 2, 2, 2, 2, 2},
	{0, 1, 2, 0, 1, 2, 0, 1},
	{2, 0, 0, 0, 0, 0, 0, 1},
}

// allFates has every row of fates of up to three packets, and rows of nearly and of just as many as a chain can send.
func allFates() []string {
	out := []string{""}
	for from := 0; len(out[from]) < 3; from++ {
		for _, fate := range "lbd" {
			out = append(out, out[from]+string(fate))
		}
	}
	return append(out, "lllllll", "dbldbld", "llllllll", "bbbbbbbb", "dddddddd", "lbdlbdlb", "dbldbldb", "dddddddl", "lddddddd", "bllllllb")
}

func statesWith(fateRows []string) []madeState {
	var out []madeState
	for _, way := range ways {
		for _, ver := range []int{1, 2, 8, 9} {
			if way == impl.WayFlush && ver == 9 {
				continue
			}
			for _, fates := range fateRows {
				for _, vers := range versionsOf(ver) {
					got := gotLists[len(out)%len(gotLists)]
					out = append(out, makeState(way, ver, fates, variedPacket, vers, got), makeState(way, ver, fates, alikePacket, vers, got))
				}
			}
		}
	}
	return out
}

func validStates() []madeState {
	return statesWith(allFates())
}

// fewStates are for tests that change each state in many ways.
func fewStates() []madeState {
	return statesWith([]string{"", "l", "bd", "lbdlbdlb"})
}

func copyState(s impl.State) impl.State {
	s.Sent, s.Live, s.Back, s.Got = slices.Clone(s.Sent), slices.Clone(s.Live), slices.Clone(s.Back), slices.Clone(s.Got)
	return s
}

func sameState(a, b impl.State) bool {
	return a.Way == b.Way && a.Ver == b.Ver && a.Want == b.Want &&
		slices.Equal(a.Sent, b.Sent) && slices.Equal(a.Live, b.Live) && slices.Equal(a.Back, b.Back) && slices.Equal(a.Got, b.Got)
}

// changedState is a copy of a state to which a change was made.
func changedState(s impl.State, change func(s *impl.State)) impl.State {
	c := copyState(s)
	change(&c)
	return c
}

// firstPackets is a state with only so many of its packets.
func firstPackets(s impl.State, n int) impl.State {
	return changedState(s, func(s *impl.State) {
		s.Sent, s.Live, s.Back = s.Sent[:n], s.Live[:n], s.Back[:n]
	})
}

// morePackets is a state with a further packet put in at a place.
func morePackets(s impl.State, at int, p impl.Packet, live, back bool) impl.State {
	return changedState(s, func(s *impl.State) {
		s.Sent, s.Live, s.Back = slices.Insert(s.Sent, at, p), slices.Insert(s.Live, at, live), slices.Insert(s.Back, at, back)
	})
}

type namedState struct {
	name  string
	state impl.State
}

// invalidStates are a valid state with each of the things in turn that the specification rules out.
func invalidStates(s impl.State) []namedState {
	out := []namedState{{"zero value", impl.State{}}}
	add := func(name string, change func(s *impl.State)) {
		out = append(out, namedState{name, changedState(s, change)})
	}
	for _, way := range append([]int{-1, -4, 5, 6}, farNumbers...) {
		add("unknown Way", func(s *impl.State) { s.Way = way })
		add("unknown Way with a Want of 0", func(s *impl.State) { s.Way, s.Want = way, 0 })
		add("unknown Way with a Want of Ver+1", func(s *impl.State) { s.Way, s.Want = way, s.Ver+1 })
	}
	for _, ver := range append([]int{-9, -1, 0, 10, 11}, farNumbers...) {
		add("Ver out of range", func(s *impl.State) { s.Ver = ver })
		add("Ver out of range with a Want of one more", func(s *impl.State) { s.Way, s.Ver, s.Want = impl.WayFlush, ver, ver+1 })
		add("Ver out of range when open", func(s *impl.State) { s.Way, s.Ver, s.Want = impl.WayOpen, ver, 0 })
	}
	add("upgrade beyond VerMax", func(s *impl.State) { s.Way, s.Ver, s.Want = impl.WayFlush, 9, 10 })
	add("upgrade without a Want", func(s *impl.State) { s.Way, s.Want = impl.WayFlush, 0 })
	for _, way := range ways[:impl.WayFlush] {
		add("Want of Ver+1 without an upgrade", func(s *impl.State) { s.Way, s.Want = way, s.Ver+1 })
		add("Want of Ver without an upgrade", func(s *impl.State) { s.Way, s.Want = way, s.Ver })
	}
	for _, want := range append([]int{-1, s.Ver - 1, s.Ver, s.Ver + 2, 10}, farNumbers...) {
		if want != s.Want {
			add("another Want", func(s *impl.State) { s.Want = want })
		}
	}
	out = append(out, invalidGots(s)...)
	out = append(out, invalidLengths(s)...)
	return append(out, invalidSents(s)...)
}

func invalidGots(s impl.State) []namedState {
	var out []namedState
	for _, got := range [][]int{nil, {}, s.Got[:1], s.Got[:7], append(slices.Clone(s.Got), 0), append(slices.Clone(s.Got), s.Got...)} {
		out = append(out, namedState{"Got of another length", changedState(s, func(s *impl.State) { s.Got = slices.Clone(got) })})
	}
	for i := range s.Got {
		for _, entry := range append([]int{-2, -1, 3, 4}, farNumbers...) {
			out = append(out, namedState{"unknown entry of Got", changedState(s, func(s *impl.State) { s.Got[i] = entry })})
		}
	}
	return out
}

func invalidLengths(s impl.State) []namedState {
	out := []namedState{
		{"Live too long", changedState(s, func(s *impl.State) { s.Live = append(s.Live, false) })},
		{"Back too long", changedState(s, func(s *impl.State) { s.Back = append(s.Back, false) })},
		{"Live and Back too long", changedState(s, func(s *impl.State) { s.Live, s.Back = append(s.Live, true), append(s.Back, false) })},
		{"Live of SeqMax+1", changedState(s, func(s *impl.State) { s.Live = make([]bool, 9) })},
		{"Back of SeqMax+1", changedState(s, func(s *impl.State) { s.Back = make([]bool, 9) })},
	}
	if n := len(s.Sent); n > 0 {
		out = append(out,
			namedState{"Live too short", changedState(s, func(s *impl.State) { s.Live = s.Live[:n-1] })},
			namedState{"Back too short", changedState(s, func(s *impl.State) { s.Back = s.Back[:n-1] })},
			namedState{"no Live", changedState(s, func(s *impl.State) { s.Live = nil })},
			namedState{"no Back", changedState(s, func(s *impl.State) { s.Back = nil })},
			namedState{"neither Live nor Back", changedState(s, func(s *impl.State) { s.Live, s.Back = nil, nil })},
			namedState{"Sent too short", changedState(s, func(s *impl.State) { s.Sent = s.Sent[:n-1] })},
			namedState{"no Sent", changedState(s, func(s *impl.State) { s.Sent = nil })})
	}
	return out
}

func invalidSents(s impl.State) []namedState {
	out := []namedState{
		{"a packet of number 0 ahead", morePackets(s, 0, changed(alikePacket(1), packetFields[0], 0), false, false)},
		{"a number left out", morePackets(s, len(s.Sent), alikePacket(len(s.Sent)+2), false, false)},
		{"a further packet that is the zero value", morePackets(s, len(s.Sent), impl.Packet{}, false, false)},
	}
	if len(s.Sent) == 8 {
		out = append(out, namedState{"SeqMax+1 packets", morePackets(s, 8, alikePacket(9), true, false)})
	}
	for i, p := range s.Sent {
		for _, f := range packetFields {
			for _, n := range beyond(f) {
				out = append(out, namedState{"packet with a wrong " + f.name, changedState(s, func(s *impl.State) { s.Sent[i] = changed(p, f, n) })})
			}
		}
		for seq := 1; seq <= 8; seq++ {
			if seq != i+1 {
				out = append(out, namedState{"number of another place", changedState(s, func(s *impl.State) { s.Sent[i].Seq = seq })})
			}
		}
		for ver := s.Ver + 1; ver <= 9; ver++ {
			out = append(out, namedState{"packet of a later version", changedState(s, func(s *impl.State) { s.Sent[i].Ver = ver })})
		}
		for j := range i {
			out = append(out, namedState{"packets exchanged", changedState(s, func(s *impl.State) { s.Sent[i], s.Sent[j] = s.Sent[j], s.Sent[i] })})
		}
		out = append(out, namedState{"in flight and refunded", changedState(s, func(s *impl.State) { s.Live[i], s.Back[i] = true, true })})
	}
	return out
}

// roomyOf is a copy of a list with spare capacity, filled with a mark.
func roomyOf[T any](list []T, mark T) []T {
	big := slices.Clone(list)
	for range 4 {
		big = append(big, mark)
	}
	return big[:len(list)]
}

func roomyState(s impl.State) impl.State {
	s.Sent, s.Live, s.Back, s.Got = roomyOf(s.Sent, variedPacket(8)), roomyOf(s.Live, true), roomyOf(s.Back, true), roomyOf(s.Got, 2)
	return s
}

// wholeState is a state with its lists up to their capacity.
func wholeState(s impl.State) impl.State {
	s.Sent, s.Live, s.Back, s.Got = s.Sent[:cap(s.Sent)], s.Live[:cap(s.Live)], s.Back[:cap(s.Back)], whole(s.Got)
	return s
}
