package tests

import (
	"slices"
	"testing"

	"loop.example/hawser/impl"
)

// P42, P43, P44, P51: chains and states of every kind, each with all packets that the other chain has sent.
func TestRelayGet(t *testing.T) {
	done := map[bool]int{}
	for i, c := range validChains() {
		for j, other := range otherStates() {
			if (i+j)%23 != 0 {
				continue
			}
			for _, p := range other.Sent {
				done[wantGet(c, other, p)]++
				checkGet(t, c, other, p)
			}
		}
	}
	if done[true] < 50 || done[false] < 500 {
		t.Error("too few cases", done)
	}
}

// P42, P53: the Way of the channel counts at this end and not at the other one.
func TestRelayGetFromEveryWay(t *testing.T) {
	for _, way := range ways {
		for _, otherWay := range ways {
			for _, ver := range []int{1, 8} {
				for _, p := range twoPackets(4, 9) {
					p.Ver = ver
					c := taker(way, ver, 2)
					other := endOf(otherWay, ver, "dbll").state
					other.Sent[3] = p
					if way == impl.WayOpen || way == impl.WayFlush {
						mustGet(t, c, other, p)
					} else {
						mustNotGet(t, c, other, p)
					}
				}
			}
		}
	}
}

// P42, P53: every version of the packet, of the chain and of the other chain, also if the chain is being upgraded to that of the packet.
func TestRelayGetVersions(t *testing.T) {
	for _, way := range []int{impl.WayOpen, impl.WayFlush} {
		for ver := 1; ver <= 9; ver++ {
			if way == impl.WayFlush && ver == 9 {
				continue
			}
			for packetVer := 1; packetVer <= 9; packetVer++ {
				for otherVer := packetVer; otherVer <= 9; otherVer++ {
					for _, p := range twoPackets(1, 9) {
						p.Ver = packetVer
						other := changedState(offer(p), func(s *impl.State) { s.Ver = otherVer })
						if packetVer == ver {
							mustGet(t, taker(way, ver, 2), other, p)
						} else {
							mustNotGet(t, taker(way, ver, 2), other, p)
						}
					}
				}
			}
		}
	}
}

// P42, P52: every number of heights with every timeout.
func TestRelayGetHeights(t *testing.T) {
	for heights := 0; heights <= impl.HeightMax; heights++ {
		c := taker(impl.WayOpen, 1, heights)
		for until := 1; until <= impl.HeightMax; until++ {
			for _, p := range twoPackets(1, until) {
				if ok := heights <= until-2; ok != wantGet(c, offer(p), p) {
					t.Fatal("wrong case", heights, until)
				}
				checkGet(t, c, offer(p), p)
			}
		}
	}
}

// P52: a packet that is received at the last height fails one and two heights later.
func TestRelayGetAheadOfTimeout(t *testing.T) {
	for until := 2; until <= impl.HeightMax; until++ {
		for _, p := range twoPackets(8, until) {
			c := taker(impl.WayFlush, 1, until-2)
			mustGet(t, c, offer(p), p)
			c = impl.ChainBlock(c)
			mustNotGet(t, c, offer(p), p)
			c = impl.ChainBlock(c)
			mustNotGet(t, c, offer(p), p)
		}
	}
}

// P42: the heights that a chain knows and the entries of Got of the other one do not count.
func TestRelayGetWhateverIsKnown(t *testing.T) {
	for _, knows := range knowLists {
		for _, got := range gotLists {
			for _, p := range twoPackets(3, 90) {
				c := changedChain(taker(impl.WayOpen, 1, 4), func(c *impl.Chain) { c.Knows = knows })
				other := changedState(offer(p), func(s *impl.State) { s.Got = got })
				mustGet(t, c, other, p)
			}
		}
	}
}

// P42: packets that the other chain has in flight, has settled, has refunded or has not sent.
func TestRelayGetFates(t *testing.T) {
	for _, fates := range allFates() {
		m := endOf(impl.WayOpen, 2, fates)
		c := taker(impl.WayOpen, 2, 3)
		for seq := 1; seq <= impl.SeqMax; seq++ {
			p := variedPacket(seq)
			p.Ver = 2
			if m.wantSettled(seq) == 1 {
				mustGet(t, c, m.state, p)
			} else {
				mustNotGet(t, c, m.state, p)
			}
		}
	}
}

// P42: an unsent packet, though the chain's own packet of that number is the same and in flight.
func TestRelayGetOwnPacket(t *testing.T) {
	for _, p := range twoPackets(1, 9) {
		c := taker(impl.WayOpen, 1, 3)
		c.State = changedState(offer(p), func(s *impl.State) { s.Way = impl.WayOpen })
		mustNotGet(t, c, endOf(impl.WayOpen, 1, "").state, p)
	}
}

// P45: each field of a packet changed to each other value that is valid.
func TestRelayGetChangedPacket(t *testing.T) {
	for _, p := range append(twoPackets(1, 50), twoPackets(8, 50)...) {
		c := taker(impl.WayOpen, 1, 3)
		mustGet(t, c, offer(p), p)
		for _, f := range packetFields {
			for _, n := range rangeOf(f) {
				if q := changed(p, f, n); q != p {
					mustNotGet(t, c, offer(p), q)
				}
			}
		}
	}
}

// P45: the fields of a packet belong to its number, also if another packet in flight has them.
func TestRelayGetPacketOfAnotherNumber(t *testing.T) {
	other := endOf(impl.WayOpen, 1, "llllllll").state
	c := taker(impl.WayOpen, 1, 3)
	for i := range other.Sent {
		for j := range other.Sent {
			p := other.Sent[i]
			p.Seq = j + 1
			if i == j {
				mustGet(t, c, other, p)
			} else {
				mustNotGet(t, c, other, p)
			}
		}
	}
}

// P42, P44: the entry of the packet counts, and no other one.
func TestRelayGetEntries(t *testing.T) {
	for seq := 1; seq <= impl.SeqMax; seq++ {
		for _, entry := range gots {
			for _, rest := range gots {
				for _, p := range twoPackets(seq, 9) {
					c := taker(impl.WayOpen, 1, 3)
					fill(c.State.Got, rest)
					c.State.Got[seq-1] = entry
					if entry == impl.GotNone {
						mustGet(t, c, offer(p), p)
					} else {
						mustNotGet(t, c, offer(p), p)
					}
				}
			}
		}
	}
}

// P43, P51: every bank, with both kinds, recipients and amounts; native coins stay as many as they were.
func TestRelayGetPays(t *testing.T) {
	entries := map[int]int{}
	for i, b := range validBanks() {
		for _, kind := range bankKinds {
			to, sum := i%4, 1+i%9
			p := impl.Packet{Seq: 2, Kind: kind, From: 1 + i%3, To: to, Sum: sum, Until: 9, Ver: 1}
			c := taker(impl.WayOpen, 1, 0)
			c.Bank = b
			got := mustGet(t, c, offer(p), p)
			entries[got.State.Got[1]]++
			want, ok := impl.BankBack(b, 3-kind, to, sum)
			if !ok {
				want = b
			}
			if !sameBank(got.Bank, want) || ok != (got.State.Got[1] == impl.GotOk) {
				t.Error(b, p, got.Bank)
			}
			if own, _ := impl.BankAll(got.Bank); own != supply {
				t.Error("native coins made or lost", b, p, got.Bank)
			}
		}
	}
	if entries[impl.GotOk] < 500 || entries[impl.GotBad] < 500 || entries[impl.GotNone] > 0 {
		t.Error("too few cases", entries)
	}
}

// P43: vouchers up to the supply and one more.
func TestRelayGetVouchersUpToSupply(t *testing.T) {
	for sum := 1; sum <= 9; sum++ {
		for to := 1; to <= impl.UserMax; to++ {
			for over := range 2 {
				p := impl.Packet{Seq: 3, Kind: impl.CoinOwn, From: 1, To: to, Sum: sum, Until: 9, Ver: 1}
				c := taker(impl.WayOpen, 1, 3)
				c.Bank = bank([]int{10, 10, 10}, []int{10, 10, 10 - sum + over}, 0)
				got := mustGet(t, c, offer(p), p)
				if over == 0 && (got.State.Got[2] != impl.GotOk || got.Bank.Notes[to-1] != c.Bank.Notes[to-1]+sum || total(got.Bank.Notes) != supply) {
					t.Error("not paid", p, got)
				}
				if over == 1 && (got.State.Got[2] != impl.GotBad || !sameBank(got.Bank, c.Bank)) {
					t.Error("not rejected", p, got)
				}
			}
		}
	}
}

// P43: native coins as many as are locked, and one more.
func TestRelayGetLockedCoins(t *testing.T) {
	for sum := 1; sum <= 9; sum++ {
		for to := 1; to <= impl.UserMax; to++ {
			for short := range 2 {
				p := impl.Packet{Seq: 3, Kind: impl.CoinNote, From: 1, To: to, Sum: sum, Until: 9, Ver: 1}
				c := taker(impl.WayFlush, 1, 3)
				c.Bank = bank([]int{10, 10, 10 - sum + short}, []int{30, 0, 0}, sum-short)
				got := mustGet(t, c, offer(p), p)
				if short == 0 && (got.State.Got[2] != impl.GotOk || got.Bank.Own[to-1] != c.Bank.Own[to-1]+sum || got.Bank.Locked != 0) {
					t.Error("not paid", p, got)
				}
				if short == 1 && (got.State.Got[2] != impl.GotBad || !sameBank(got.Bank, c.Bank)) {
					t.Error("not rejected", p, got)
				}
			}
		}
	}
}

// P43: recipient 0 is rejected, and to any user the same packet is paid.
func TestRelayGetRecipients(t *testing.T) {
	for to := 0; to <= impl.UserMax; to++ {
		for _, p := range twoPackets(5, 9) {
			p.To = to
			c := taker(impl.WayOpen, 1, 3)
			got := mustGet(t, c, offer(p), p)
			if to == 0 && (got.State.Got[4] != impl.GotBad || !sameBank(got.Bank, c.Bank)) {
				t.Error("not rejected", p, got)
			}
			if to > 0 && (got.State.Got[4] != impl.GotOk || amount(got.Bank, 3-p.Kind, to) != amount(c.Bank, 3-p.Kind, to)+p.Sum) {
				t.Error("not paid", p, got)
			}
		}
	}
}

// P44: received or rejected, a packet is not received again, whatever the state of the other chain.
func TestRelayGetTwice(t *testing.T) {
	for to := 0; to <= impl.UserMax; to++ {
		for _, p := range twoPackets(2, 90) {
			p.To = to
			c := taker(impl.WayOpen, 1, 3)
			once := mustGet(t, c, offer(p), p)
			for _, later := range []impl.Chain{once, impl.ChainBlock(once)} {
				mustNotGet(t, later, offer(p), p)
				for _, way := range ways {
					other := endOf(way, 1, "llll").state
					other.Sent[1] = p
					mustNotGet(t, later, other, p)
					q := other.Sent[2]
					mustGet(t, later, other, q)
				}
			}
		}
	}
}

// P43, P51: packets one after the other, in any order, until nothing is locked any more.
func TestRelayGetOneAfterTheOther(t *testing.T) {
	other := endOf(impl.WayOpen, 1, "llllllll").state
	for i := range other.Sent {
		other.Sent[i].Kind, other.Sent[i].To, other.Sent[i].Sum = impl.CoinNote, 1+i%3, 4
	}
	for _, order := range [][]int{{1, 2, 3, 4, 5, 6, 7, 8}, {8, 7, 6, 5, 4, 3, 2, 1}, {3, 8, 1, 6, 2, 7, 5, 4}} {
		c := taker(impl.WayOpen, 1, 3)
		c.Bank = bank([]int{6, 6, 6}, []int{0, 0, 0}, 12)
		for n, seq := range order {
			c = mustGet(t, c, other, other.Sent[seq-1])
			want := impl.GotOk
			if n >= 3 {
				want = impl.GotBad
			}
			if c.State.Got[seq-1] != want {
				t.Error(order, n, c)
			}
		}
		if c.Bank.Locked != 0 || total(c.Bank.Own) != supply {
			t.Error(order, c.Bank)
		}
	}
}

// P46, P49: chains and states of every kind, and all numbers of packets and others.
func TestRelayTell(t *testing.T) {
	done := map[bool]int{}
	for i, c := range validChains() {
		for j, got := range gotLists {
			if len(c.Past) > 2 && (i+j)%5 != 0 {
				continue
			}
			other := changedState(madeStates[(7*i+j)%len(madeStates)].state, func(s *impl.State) { s.Got = got })
			for _, seq := range []int{0, 1, 2, 4, 7, 8, 9} {
				done[wantTell(c, other, seq)]++
				checkTell(t, c, other, seq)
			}
		}
	}
	if done[true] < 1000 || done[false] < 1000 {
		t.Error("too few cases", done)
	}
}

// P46, P47: numbers that no packet has, and those of packets that are in flight, settled or refunded.
func TestRelayNumbers(t *testing.T) {
	for _, fates := range append(allFates(), "ldbldbl") {
		c := sender()
		c.State = endOf(impl.WayOpen, 9, fates).state
		for _, seq := range seqs {
			live := seq >= 1 && seq <= len(fates) && fates[seq-1] == 'l'
			for _, entry := range gots {
				other := endOf(impl.WayOpen, 9, "").state
				fill(other.Got, entry)
				if wantTell(c, other, seq) != (live && entry != impl.GotNone) || wantLate(c, other, 90, seq) != (live && entry == impl.GotNone) {
					t.Fatal("wrong case", fates, seq, entry)
				}
				checkTell(t, c, other, seq)
				checkLate(t, c, other, 90, seq)
			}
		}
	}
}

// P46, P47: the entry of the packet counts, and no other one.
func TestRelayEntries(t *testing.T) {
	for seq := 1; seq <= impl.SeqMax; seq++ {
		c := sender(endOf(impl.WayOpen, 1, "llllllll").state.Sent...)
		for _, entry := range gots {
			told, late := checkTell(t, c, received(seq, entry), seq), checkLate(t, c, received(seq, entry), 90, seq)
			if got := impl.StateSettled(told.State, seq); got != []int{1, 2, 3}[entry] {
				t.Errorf("packet %d told by entry %d: %d", seq, entry, got)
			}
			if got := impl.StateSettled(late.State, seq); got != []int{3, 1, 1}[entry] {
				t.Errorf("packet %d late by entry %d: %d", seq, entry, got)
			}
		}
	}
}

// P46, P47: neither the Way and version of this end nor anything of the other one but Got counts.
func TestRelaySettlesFromEveryWay(t *testing.T) {
	for _, m := range endsWith([]string{"l", "dbl", "llllllll"}) {
		c := sender()
		c.State = m.state
		seq := len(m.fates)
		for _, other := range otherStates() {
			for _, entry := range gots {
				s := changedState(other, func(s *impl.State) { s.Got[seq-1] = entry })
				if entry == impl.GotNone {
					mustLate(t, c, s, 90, seq)
				} else {
					mustTell(t, c, s, seq)
				}
			}
		}
	}
}

// P46: an acknowledgement comes in time at every height of the chain.
func TestRelayTellHeights(t *testing.T) {
	for heights := 0; heights <= impl.HeightMax; heights++ {
		for _, until := range []int{1, 45, 90} {
			for _, p := range twoPackets(1, until) {
				c := changedChain(sender(p), func(c *impl.Chain) { c.Past = pastOf(heights) })
				mustTell(t, c, received(1, impl.GotOk), 1)
				mustTell(t, c, received(1, impl.GotBad), 1)
			}
		}
	}
}

// P47: every height of the other chain with every timeout.
func TestRelayLateHeights(t *testing.T) {
	for until := 1; until <= impl.HeightMax; until++ {
		for _, p := range twoPackets(1, until) {
			c := sender(p)
			for height := 1; height <= impl.HeightMax; height++ {
				if wantLate(c, received(1, impl.GotNone), height, 1) != (height >= until) {
					t.Fatal("wrong case", height, until)
				}
				checkLate(t, c, received(1, impl.GotNone), height, 1)
			}
		}
	}
}

// P47: the timeout is held against the height that is given, not against those that the chain has or knows.
func TestRelayLateWhateverIsKnown(t *testing.T) {
	for _, heights := range heightCounts {
		for _, knows := range knowLists {
			for _, p := range twoPackets(1, 45) {
				c := changedChain(sender(p), func(c *impl.Chain) { c.Past, c.Knows = pastOf(heights), knows })
				checkLate(t, c, received(1, impl.GotNone), 44, 1)
				mustLate(t, c, received(1, impl.GotNone), 45, 1)
				mustLate(t, c, received(1, impl.GotNone), 46, 1)
			}
		}
	}
}

// P47: each packet has a timeout of its own.
func TestRelayLateOfEachPacket(t *testing.T) {
	packets := endOf(impl.WayOpen, 1, "llllllll").state.Sent
	c := sender(packets...)
	for i, p := range packets {
		for height := p.Until - 1; height <= min(p.Until+1, impl.HeightMax); height++ {
			got := checkLate(t, c, received(i+1, impl.GotNone), height, i+1)
			if back := impl.StateSettled(got.State, i+1) == 3; back != (height >= p.Until) {
				t.Error(height, p, got.State)
			}
		}
	}
}

// P47: a height that there cannot be is invalid, whether the packet is there or not.
func TestRelayLateOfNoHeight(t *testing.T) {
	for _, height := range noHeights {
		for _, p := range twoPackets(1, 1) {
			for _, entry := range gots {
				for _, seq := range []int{0, 1, 2, 9} {
					checkZero(t, "RelayLate by no height", sender(p), received(1, entry), lateOf(height, seq))
				}
			}
		}
	}
	for _, height := range []int{1, impl.HeightMax} {
		p := twoPackets(1, height)[0]
		mustLate(t, sender(p), received(1, impl.GotNone), height, 1)
	}
}

// P46, P47: a refund gives the coins back that were taken when the packet was sent.
func TestRelayRefundsWhatWasSent(t *testing.T) {
	for _, kind := range bankKinds {
		for from := 1; from <= impl.UserMax; from++ {
			for sum := 1; sum <= 9; sum++ {
				c := richChain(1, "")
				sent := mustSend(t, c, sending{kind, from, from % 4, sum, 9})
				rejected := mustTell(t, sent, received(1, impl.GotBad), 1)
				late := mustLate(t, sent, received(1, impl.GotNone), 9, 1)
				if !sameBank(rejected.Bank, c.Bank) || !sameBank(late.Bank, c.Bank) || sameBank(sent.Bank, c.Bank) {
					t.Error(kind, from, sum, rejected.Bank, late.Bank)
				}
				if told := mustTell(t, sent, received(1, impl.GotOk), 1); !sameBank(told.Bank, sent.Bank) {
					t.Error("refunded, though received", kind, from, sum, told.Bank)
				}
			}
		}
	}
}

// P46, P47: a refund for which just enough is there, and one that the bank does not allow: the packet counts as refunded, and nobody is paid.
func TestRelayRefundThatBankRefuses(t *testing.T) {
	for sum := 1; sum <= 9; sum++ {
		for from := 1; from <= impl.UserMax; from++ {
			for _, kind := range bankKinds {
				for lack := range 2 {
					p := impl.Packet{Seq: 1, Kind: kind, From: from, To: 2, Sum: sum, Until: 9, Ver: 1}
					c := sender(p)
					c.Bank = bank([]int{30 - sum + lack, 0, 0}, []int{0, 30 - sum + lack, 0}, sum-lack)
					want := c.Bank
					if lack == 0 {
						want = with(want, kind, from, sum)
						if kind == impl.CoinOwn {
							want = withLocked(want, -sum)
						}
					}
					rejected := mustTell(t, c, received(1, impl.GotBad), 1)
					late := mustLate(t, c, received(1, impl.GotNone), 9, 1)
					for _, got := range []impl.Chain{rejected, late} {
						if !sameBank(got.Bank, want) || impl.StateSettled(got.State, 1) != 3 {
							t.Error(p, lack, got)
						}
					}
				}
			}
		}
	}
}

// P46, P47: a refund from every bank.
func TestRelayRefundOfEveryBank(t *testing.T) {
	for i, b := range validBanks() {
		for _, p := range twoPackets(1, 9) {
			p.From, p.Sum = 1+i%3, 1+i%9
			c := sender(p)
			c.Past, c.Bank = nil, b
			mustTell(t, c, received(1, impl.GotBad), 1)
			late := mustLate(t, c, received(1, impl.GotNone), 9, 1)
			if own, _ := impl.BankAll(late.Bank); own != supply {
				t.Error("native coins made or lost", b, p, late.Bank)
			}
		}
	}
}

// P48: what is settled once is settled for ever, by whatever state and height.
func TestRelaySettledOnce(t *testing.T) {
	packets := endOf(impl.WayOpen, 1, "llllllll").state.Sent
	for seq := 1; seq <= impl.SeqMax; seq++ {
		c := sender(packets...)
		settled := []impl.Chain{
			mustTell(t, c, received(seq, impl.GotOk), seq),
			mustTell(t, c, received(seq, impl.GotBad), seq),
			mustLate(t, c, received(seq, impl.GotNone), 90, seq),
		}
		for _, d := range settled {
			for _, entry := range gots {
				for _, later := range []impl.Chain{d, impl.ChainBlock(d)} {
					if wantTell(later, received(seq, entry), seq) || wantLate(later, received(seq, entry), 90, seq) {
						t.Fatal("wrong case", seq, entry)
					}
					checkTell(t, later, received(seq, entry), seq)
					for _, height := range []int{1, packets[seq-1].Until, 90} {
						checkLate(t, later, received(seq, entry), height, seq)
					}
				}
			}
		}
	}
}

// P46, P48, P49: all packets settled one after the other; those that are left stay in flight.
func TestRelaySettleAll(t *testing.T) {
	for _, order := range [][]int{{1, 2, 3, 4, 5, 6, 7, 8}, {8, 7, 6, 5, 4, 3, 2, 1}, {3, 8, 1, 6, 2, 7, 5, 4}} {
		c := richChain(3, "")
		first := copyBank(c.Bank)
		for n := range impl.SeqMax {
			c = mustSend(t, c, sending{1 + n%2, 1 + n%3, n % 4, 1 + n%3, 10 + n})
		}
		left := countedTo(impl.SeqMax)
		for _, seq := range order {
			if seq%2 == 0 {
				c = mustTell(t, c, received(seq, impl.GotBad), seq)
			} else {
				c = mustLate(t, c, received(seq, impl.GotNone), 9+seq, seq)
			}
			left = slices.DeleteFunc(left, func(n int) bool { return n == seq })
			if !slices.Equal(impl.StateLive(c.State), left) {
				t.Error(order, seq, impl.StateLive(c.State))
			}
		}
		if !sameBank(c.Bank, first) {
			t.Error(order, c.Bank)
		}
	}
}

// P50: every step from every Way and version of both ends, with packets in flight and none.
func TestRelayStep(t *testing.T) {
	ends := endsWith([]string{"", "l", "db"})
	done := map[bool]int{}
	for i, m := range ends {
		c := chainOf(1+i%2, someBanks[i%len(someBanks)], m.state, i%3, knowLists[i%len(knowLists)])
		for _, other := range ends {
			steps := wantSteps(m, other)
			for _, step := range allSteps {
				may := slices.Contains(steps, step)
				done[may]++
				checkRelayStep(t, c, other.state, step, may)
			}
		}
	}
	if done[true] < 1000 || done[false] < 1000 {
		t.Error("too few cases", done)
	}
}

// P50: the state is that of WayDo, and all else stays, with any number of heights.
func TestRelayStepIsWayDo(t *testing.T) {
	for i, pair := range permittedPairs() {
		for _, heights := range heightCounts {
			c := chainOf(1, someBanks[i%len(someBanks)], pair.this.state, heights, knowLists[i%len(knowLists)])
			got := checkRelayStep(t, c, pair.other.state, pair.step, true)
			if state, ok := impl.WayDo(c.State, pair.other.state, pair.step); !ok || !sameState(got.State, state) {
				t.Error(pair, got.State, state)
			}
			if !sameBank(got.Bank, c.Bank) || !slices.EqualFunc(got.Past, c.Past, sameState) || !slices.Equal(got.Knows, c.Knows) || got.Id != c.Id {
				t.Error(pair, got)
			}
		}
	}
}

// P50: numbers that are no step change nothing.
func TestRelayStepOfNoStep(t *testing.T) {
	for _, pair := range permittedPairs() {
		c := chainOf(2, someBanks[1], pair.this.state, 1, []int{4})
		for _, step := range noSteps() {
			checkRelayStep(t, c, pair.other.state, step, false)
		}
	}
}

// P54: any two steps one after the other, by one state of the other end.
func TestRelayStepTwice(t *testing.T) {
	both := 0
	ends := endsWith([]string{"", "db"})
	for _, m := range ends {
		c := chainOf(1, someBanks[1], m.state, 1, []int{1})
		for _, other := range ends {
			for _, first := range allSteps {
				once, ok := impl.RelayStep(c, other.state, first)
				state, may := impl.WayDo(c.State, other.state, first)
				if ok != may || ok && !sameState(once.State, state) {
					t.Error(c, other, first, once)
				}
				if !ok {
					continue
				}
				for _, second := range allSteps {
					twice, ok := impl.RelayStep(once, other.state, second)
					want, may := impl.WayDo(state, other.state, second)
					if !may {
						want = state
					} else {
						both++
					}
					if ok != may || !sameState(twice.State, want) || !sameBank(twice.Bank, c.Bank) {
						t.Error(c, other, first, second, twice)
					}
				}
			}
		}
	}
	if both < 100 {
		t.Error("too few cases", both)
	}
}

// P54: an end begins, tries, and opens by one state, and begins an upgrade and ends it by another one.
func TestRelayStepsByOneState(t *testing.T) {
	c, _ := impl.ChainNew(1)
	other := endOf(impl.WayTry, 1, "").state
	for _, step := range []int{impl.StepInit, impl.StepTry, impl.StepDone} {
		c = checkRelayStep(t, c, other, step, true)
	}
	for ver := 1; ver < impl.VerMax; ver++ {
		other = endOf(impl.WayFlush, ver, "").state
		c = checkRelayStep(t, c, other, impl.StepAlso, true)
		c = checkRelayStep(t, c, other, impl.StepFresh, true)
	}
	if c.State.Way != impl.WayOpen || c.State.Ver != impl.VerMax {
		t.Error(c)
	}
	checkRelayStep(t, c, other, impl.StepNew, false)
}

// P42, P46, P47, P50: a chain that is not valid, alone.
func TestRelayInvalidChain(t *testing.T) {
	p := variedPacket(1)
	for _, c := range []impl.Chain{taker(impl.WayOpen, 1, 2), fewChains()[2]} {
		for _, bad := range invalidChains(c) {
			for name, relay := range relayCalls() {
				for _, other := range []impl.State{offer(p), received(1, impl.GotBad)} {
					checkZero(t, name+": "+bad.name, bad.chain, other, relay)
				}
			}
		}
	}
}

// P42, P46, P47, P50: a state of the other chain that is not valid, alone; also for steps that ask nothing of it.
func TestRelayInvalidOther(t *testing.T) {
	p := variedPacket(1)
	for _, c := range []impl.Chain{taker(impl.WayOpen, 1, 2), sender(p), chainOf(1, someBanks[0], impl.StateNew(), 0, nil)} {
		for _, good := range []impl.State{offer(p), received(1, impl.GotBad), endOf(impl.WayFlush, 1, "ldb").state} {
			for _, bad := range invalidStates(good) {
				for name, relay := range relayCalls() {
					checkZero(t, name+": "+bad.name, c, bad.state, relay)
				}
				checkZero(t, "RelayStep, StepInit: "+bad.name, c, bad.state, stepOf(impl.StepInit))
			}
		}
	}
}

// P42: a packet that is not valid, alone, from every Way.
func TestRelayInvalidPacket(t *testing.T) {
	for _, way := range ways {
		c := taker(way, 1, 2)
		for _, p := range append(twoPackets(1, 90), impl.Packet{Seq: 8, Kind: 1, From: 3, To: 0, Sum: 9, Until: 90, Ver: 1}) {
			checkZero(t, "zero value", c, offer(p), getOf(impl.Packet{}))
			for _, f := range packetFields {
				for _, n := range slices.Concat(beyond(f), farNumbers) {
					if n < f.low || n > f.high {
						checkZero(t, f.name, c, offer(p), getOf(changed(p, f, n)))
					}
				}
			}
		}
	}
}

// P42, P46, P47, P50: chain, state and the rest, not valid together.
func TestRelayNothingValid(t *testing.T) {
	for name, relay := range relayCalls() {
		checkZero(t, name, impl.Chain{}, impl.State{}, relay)
	}
	checkZero(t, "RelayGet", impl.Chain{}, impl.State{}, getOf(impl.Packet{}))
	for _, far := range farNumbers {
		checkZero(t, "RelayTell", impl.Chain{}, impl.State{}, tellOf(far))
		checkZero(t, "RelayLate", impl.Chain{}, impl.State{}, lateOf(far, far))
		checkZero(t, "RelayStep", impl.Chain{}, impl.State{}, stepOf(far))
	}
}

// P42 to P47: coins go to the other chain and come back, relayed by states at heights.
func TestRelayThereAndBack(t *testing.T) {
	a, _ := impl.ChainNew(1)
	b, _ := impl.ChainNew(2)
	a = checkRelayStep(t, a, b.State, impl.StepInit, true)
	b = checkRelayStep(t, b, a.State, impl.StepTry, true)
	a = checkRelayStep(t, a, b.State, impl.StepAck, true)
	b = checkRelayStep(t, b, a.State, impl.StepDone, true)

	a = impl.ChainBlock(mustSend(t, a, sending{1, 1, 2, 7, 5}))
	shown, _ := impl.ChainAt(a, 1)
	b = impl.ChainBlock(mustGet(t, b, shown, shown.Sent[0]))
	if !slices.Equal(b.Bank.Notes, []int{0, 7, 0}) || a.Bank.Locked != 7 {
		t.Error(a.Bank, b.Bank)
	}
	shown, _ = impl.ChainAt(b, 1)
	checkLate(t, a, shown, 90, 1)
	a = mustTell(t, a, shown, 1)

	b = impl.ChainBlock(mustSend(t, b, sending{2, 2, 3, 4, 9}))
	shown, _ = impl.ChainAt(b, 2)
	a = impl.ChainBlock(mustGet(t, a, shown, shown.Sent[0]))
	if !slices.Equal(a.Bank.Own, []int{3, 10, 14}) || a.Bank.Locked != 3 || !slices.Equal(b.Bank.Notes, []int{0, 3, 0}) {
		t.Error(a.Bank, b.Bank)
	}
	shown, _ = impl.ChainAt(a, 2)
	b = mustTell(t, b, shown, 1)
	if !sameBank(b.Bank, bank([]int{10, 10, 10}, []int{0, 3, 0}, 0)) || len(impl.StateLive(a.State)) != 0 || len(impl.StateLive(b.State)) != 0 {
		t.Error(a, b)
	}
}

// P42, P47: at the end of each height, either the packet was received, or the height refunds it once it is the timeout.
func TestRelayNeverBoth(t *testing.T) {
	for until := 1; until <= impl.HeightMax; until++ {
		for _, p := range twoPackets(1, until) {
			for heights := max(until-3, 0); heights <= min(until+1, impl.HeightMax-1); heights++ {
				after, gets := impl.RelayGet(taker(impl.WayOpen, 1, heights), offer(p), p)
				shown, _ := impl.ChainAt(impl.ChainBlock(after), heights+1)
				_, late := impl.RelayLate(sender(p), shown, heights+1, 1)
				_, told := impl.RelayTell(sender(p), shown, 1)
				if gets == late || gets != told {
					t.Errorf("until %d, at height %d: received %v, acknowledged %v, refunded %v", until, heights+1, gets, told, late)
				}
			}
		}
	}
}

// General rules: arguments stay as they are, also beyond the length of their lists, nothing there is looked at, and results share no memory.
func TestRelayMemory(t *testing.T) {
	p := variedPacket(1)
	flush := endOf(impl.WayFlush, 1, "l").state
	for _, made := range []impl.Chain{taker(impl.WayOpen, 1, 0), taker(impl.WayOpen, 1, 3), sender(p), sender(p, variedPacket(2)), taker(impl.WayFlush, 1, 18)} {
		for _, madeOther := range []impl.State{offer(p), received(1, impl.GotOk), received(1, impl.GotBad), flush} {
			c, other := roomyChain(made), roomyState(madeOther)
			before, otherBefore := copyChain(wholeChain(c)), copyState(wholeState(other))
			lists := [][]any{chainPlaces(c), statePlaces(other)}
			var results []impl.Chain
			for name, relay := range relayCalls() {
				first, ok1 := relay(c, other)
				second, ok2 := relay(copyChain(made), copyState(madeOther))
				if ok1 != ok2 || !sameChain(first, second) {
					t.Errorf("%s depends on what is beyond a list: %v, %v", name, first, second)
				}
				results = append(results, first)
				lists = append(lists, chainPlaces(first))
			}
			checkPlaces(t, "results", lists...)
			for _, result := range results {
				spoilChain(result)
			}
			if !sameChain(wholeChain(c), before) || !sameState(wholeState(other), otherBefore) {
				t.Errorf("argument changed: %v, by %v", made, madeOther)
			}
		}
	}
}

// General rules: lists that the chain shares with the state of the other one, or within itself, stay as they are.
func TestRelayOfSharedLists(t *testing.T) {
	p := variedPacket(1)
	c := taker(impl.WayOpen, 1, 0)
	c.State = offer(p)
	c.Past = []impl.State{c.State, c.State}
	before := copyChain(c)
	results := []impl.Chain{
		mustGet(t, c, c.State, p),
		mustLate(t, c, c.Past[0], 90, 1),
		checkTell(t, c, c.State, 1),
		checkRelayStep(t, c, c.State, impl.StepNew, true),
		checkRelayStep(t, c, c.State, impl.StepAlso, false),
	}
	c.State.Got[0] = impl.GotBad
	results = append(results, mustTell(t, c, c.State, 1))
	c.State.Got[0] = impl.GotNone
	lists := [][]any{places(c.Bank.Own), places(c.Bank.Notes), statePlaces(c.State), places(c.Past), places(c.Knows)}
	for _, result := range results {
		lists = append(lists, chainPlaces(result))
	}
	checkPlaces(t, "of shared lists", lists...)
	if !sameChain(c, before) {
		t.Error("argument changed", c)
	}
}

// General rules: an empty list may be nil or not.
func TestRelayEmptyLists(t *testing.T) {
	p := variedPacket(1)
	c := changedChain(taker(impl.WayOpen, 1, 0), func(c *impl.Chain) {
		c.Past, c.Knows = []impl.State{}, []int{}
		c.State.Sent, c.State.Live, c.State.Back = []impl.Packet{}, []bool{}, []bool{}
	})
	empty := changedState(endOf(impl.WayFlush, 1, "").state, func(s *impl.State) {
		s.Sent, s.Live, s.Back = []impl.Packet{}, []bool{}, []bool{}
	})
	mustGet(t, c, offer(p), p)
	mustNotGet(t, c, empty, p)
	checkTell(t, c, empty, 1)
	checkLate(t, c, empty, 90, 1)
	checkRelayStep(t, c, empty, impl.StepAlso, true)
}

// General rules: functions keep no state.
func TestRelayNoState(t *testing.T) {
	p := variedPacket(1)
	for name, relay := range relayCalls() {
		for _, c := range []impl.Chain{taker(impl.WayOpen, 1, 2), sender(p)} {
			for _, other := range []impl.State{offer(p), received(1, impl.GotBad)} {
				first, ok1 := relay(c, other)
				for _, between := range relayCalls() {
					between(first, other)
				}
				if second, ok2 := relay(c, other); ok1 != ok2 || !sameChain(first, second) {
					t.Errorf("%s gives %v, then %v", name, first, second)
				}
			}
		}
	}
}
