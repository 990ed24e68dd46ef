package tests

import (
	"math"
	"slices"
	"testing"

	"loop.example/hawser/impl"
)

// P32
func TestChainNew(t *testing.T) {
	for _, id := range []int{1, 2} {
		c, ok := impl.ChainNew(id)
		want := impl.Chain{Id: id, Bank: bank([]int{10, 10, 10}, []int{0, 0, 0}, 0), State: impl.State{Ver: 1, Got: make([]int, 8)}}
		if !ok || !impl.ChainOk(c) || !sameChain(c, want) || !sameBank(c.Bank, impl.BankNew()) || !sameState(c.State, impl.StateNew()) {
			t.Error(id, c, ok)
		}
		if height, seq := impl.ChainNext(c); height != 1 || seq != 1 {
			t.Error(id, height, seq)
		}
		checkHeights(t, "new", c, nil)
	}
}

// P32
func TestChainNewOfNoId(t *testing.T) {
	for _, id := range noIds {
		if c, ok := impl.ChainNew(id); ok || !zeroChain(c) {
			t.Error(id, c, ok)
		}
	}
	for id := -300; id <= 300; id++ {
		if _, ok := impl.ChainNew(id); ok != (id == 1 || id == 2) {
			t.Error(id, ok)
		}
	}
}

// P38, P41: ordinary chains, with the edges that the chapter names.
func TestChainOk(t *testing.T) {
	for _, c := range validChains() {
		if !impl.ChainOk(c) {
			t.Error("refused", c)
		}
	}
	for _, b := range validBanks() {
		if c := chainOf(1, b, impl.StateNew(), 1, nil); !impl.ChainOk(c) {
			t.Error("refused", c)
		}
	}
	for _, heights := range heightCounts {
		for _, knows := range knowLists {
			if c := chainOf(2, impl.BankNew(), impl.StateNew(), heights, knows); !impl.ChainOk(c) {
				t.Error("refused", c)
			}
		}
	}
}

// P32 to P37, P41: each thing in turn that makes a chain invalid.
func TestChainNotOk(t *testing.T) {
	for _, c := range fewChains() {
		for _, bad := range invalidChains(c) {
			checkNoChain(t, bad.name, bad.chain)
		}
	}
}

// P41: the known heights of a chain are not held against its own heights, nor against each other beyond their order.
func TestChainKnowsAnyHeights(t *testing.T) {
	for _, heights := range heightCounts {
		for height := -2; height <= 93; height++ {
			c := chainOf(1, impl.BankNew(), impl.StateNew(), heights, []int{height})
			if ok := height >= 1 && height <= 90; impl.ChainOk(c) != ok {
				t.Errorf("%d heights, height %d known: %v", heights, height, !ok)
			}
		}
	}
	for first := 0; first <= 91; first++ {
		for second := 0; second <= 91; second++ {
			c := chainOf(1, impl.BankNew(), impl.StateNew(), 0, []int{first, second})
			if ok := first >= 1 && first < second && second <= 90; impl.ChainOk(c) != ok {
				t.Errorf("heights %d and %d known: %v", first, second, !ok)
			}
		}
	}
}

// General rules: an empty list may be nil or not.
func TestChainEmptyLists(t *testing.T) {
	c, _ := impl.ChainNew(1)
	c.State.Way = impl.WayOpen
	e := changedChain(c, func(c *impl.Chain) {
		c.Past, c.Knows = []impl.State{}, []int{}
		c.State.Sent, c.State.Live, c.State.Back = []impl.Packet{}, []bool{}, []bool{}
	})
	for _, c := range []impl.Chain{c, e} {
		if !impl.ChainOk(c) {
			t.Error("refused", c)
		}
		checkBlock(t, c)
		mustSend(t, c, sending{1, 1, 2, 3, 9})
		checkSend(t, c, sending{0, 1, 2, 3, 9})
		checkHeights(t, "empty lists", c, nil)
	}
}

// P33: also at HeightMax, where nothing changes.
func TestChainBlock(t *testing.T) {
	for _, c := range validChains() {
		got := checkBlock(t, c)
		if want := min(len(c.Past)+1, 90); len(got.Past) != want {
			t.Errorf("%d heights, not %d", len(got.Past), want)
		}
	}
}

// P33, P37: height after height, up to HeightMax and on.
func TestChainBlockUpToLastHeight(t *testing.T) {
	c, _ := impl.ChainNew(2)
	for n := 1; n <= impl.HeightMax+3; n++ {
		c = checkBlock(t, c)
		want := min(n, impl.HeightMax)
		if len(c.Past) != want || !sameState(c.Past[want-1], impl.StateNew()) {
			t.Errorf("block %d: %d heights", n, len(c.Past))
		}
		next := want + 1
		if want == 90 {
			next = 0
		}
		if height, seq := impl.ChainNext(c); height != next || seq != 1 {
			t.Errorf("block %d: next are %d and %d", n, height, seq)
		}
	}
}

// P33: at HeightMax the last height keeps its state, whatever the chain has become.
func TestChainBlockAtLastHeight(t *testing.T) {
	for _, way := range ways {
		c := chainOf(1, impl.BankNew(), endOf(way, 2, "lb").state, impl.HeightMax, nil)
		checkHeights(t, "at HeightMax", checkBlock(t, c), pastOf(impl.HeightMax))
	}
	c := chainOf(1, impl.BankNew(), endOf(impl.WayOpen, 1, "").state, impl.HeightMax-1, nil)
	c = checkBlock(t, c)
	c = mustSend(t, c, sending{1, 1, 2, 3, 9})
	c = checkBlock(t, c)
	if s, ok := impl.ChainAt(c, impl.HeightMax); !ok || len(s.Sent) != 0 {
		t.Error(s, ok)
	}
}

// P40
func TestChainBlockTwice(t *testing.T) {
	for _, c := range validChains() {
		n := len(c.Past)
		if n > impl.HeightMax-2 {
			continue
		}
		twice := impl.ChainBlock(impl.ChainBlock(c))
		first, ok1 := impl.ChainAt(twice, n+1)
		second, ok2 := impl.ChainAt(twice, n+2)
		if !ok1 || !ok2 || !sameState(first, second) || !sameState(first, c.State) || len(twice.Past) != n+2 {
			t.Errorf("heights %d and %d: %v, %v: %v", n+1, n+2, first, second, c)
		}
		checkPlaces(t, "two heights of one state", chainPlaces(twice))
	}
}

// P40: only one height is left.
func TestChainBlockTwiceAtLastButOne(t *testing.T) {
	c := chainOf(1, impl.BankNew(), endOf(impl.WayOpen, 2, "ld").state, impl.HeightMax-1, nil)
	once := checkBlock(t, c)
	if twice := checkBlock(t, once); !sameChain(once, twice) {
		t.Error(once, twice)
	}
}

// P34
func TestChainAt(t *testing.T) {
	for _, heights := range append([]int{3, 7, 45}, heightCounts...) {
		past := pastOf(heights)
		for i := 1; i < heights; i++ {
			if sameState(past[i-1], past[i]) {
				t.Fatal("neighbours are alike: a test by them would tell nothing", i)
			}
		}
		for _, way := range ways {
			c := chainOf(1, impl.BankNew(), endOf(way, 2, "l").state, heights, []int{90})
			checkHeights(t, "as made", c, past)
		}
	}
}

// P34: the known heights are those of the other chain.
func TestChainAtKnownHeights(t *testing.T) {
	c := chainOf(1, impl.BankNew(), endOf(impl.WayOpen, 2, "l").state, 2, []int{3, 4, 90})
	checkHeights(t, "other heights known", c, pastOf(2))
}

// P34: ChainBlock and ChainSend, done or not possible, leave what is at a height as it is.
func TestChainAtAfterBlockAndSend(t *testing.T) {
	for i, c := range validChains() {
		if i%11 != 0 {
			continue
		}
		past, n := copyStates(c.Past), len(c.Past)
		for _, x := range []sending{{1, 1, 2, 3, 9}, {2, 2, 0, 1, 90}, {1, 3, 3, 10, 9}} {
			checkHeights(t, "after sending", checkSend(t, c, x), past)
		}
		if n < impl.HeightMax {
			past = append(past, copyState(c.State))
		}
		checkHeights(t, "after a block", checkBlock(t, c), past)
	}
}

// P35, P36: every Way, every number of packets, banks with and without coins.
func TestChainSend(t *testing.T) {
	sends := []sending{{1, 1, 2, 3, 9}, {1, 2, 0, 9, 90}, {2, 1, 3, 1, 1}, {2, 2, 1, 8, 40}, {1, 1, 2, 0, 9}, {3, 1, 2, 3, 9}}
	done := map[bool]int{}
	for _, c := range validChains() {
		for _, x := range sends {
			done[x.wantSent(c)]++
			checkSend(t, c, x)
		}
	}
	if done[true] < 500 || done[false] < 500 {
		t.Error("too few cases", done)
	}
}

// P36: the channel must be open, and nothing else will do.
func TestChainSendFromEveryWay(t *testing.T) {
	for _, way := range ways {
		for _, ver := range []int{1, 2, 8} {
			for _, fates := range []string{"", "l", "dbdbdbd"} {
				c := richChain(ver, fates)
				c.State = endOf(way, ver, fates).state
				for _, x := range []sending{{1, 1, 2, 3, 9}, {2, 3, 0, 9, 90}} {
					if x.wantSent(c) != (way == impl.WayOpen) {
						t.Fatal("wrong case", way, x)
					}
					checkSend(t, c, x)
				}
			}
		}
	}
}

// P35, P36: every field at its bounds, inside them and past them, with the others valid.
func TestChainSendFields(t *testing.T) {
	c := richChain(1, "l")
	set := map[string]func(x *sending, n int){
		"Kind":  func(x *sending, n int) { x.kind = n },
		"From":  func(x *sending, n int) { x.from = n },
		"To":    func(x *sending, n int) { x.to = n },
		"Sum":   func(x *sending, n int) { x.sum = n },
		"Until": func(x *sending, n int) { x.until = n },
	}
	for _, f := range packetFields {
		if set[f.name] == nil {
			continue
		}
		for _, n := range slices.Concat(rangeOf(f), beyond(f), farNumbers, []int{f.low - 2, f.high + 2}) {
			for _, x := range []sending{{1, 1, 2, 3, 9}, {2, 2, 0, 9, 90}} {
				set[f.name](&x, n)
				if x.wantSent(c) != (n >= f.low && n <= f.high) {
					t.Fatal("wrong case", f.name, n, x)
				}
				checkSend(t, c, x)
			}
		}
	}
}

// P35, P36: all fields at both ends of their ranges and one past them, together.
func TestChainSendFieldsTogether(t *testing.T) {
	c := richChain(3, "db")
	sent := 0
	for _, kind := range []int{0, 1, 2, 3} {
		for _, from := range []int{0, 1, 3, 4} {
			for _, to := range []int{-1, 0, 3, 4} {
				for _, sum := range []int{-1, 0, 1, 9, 10} {
					for _, until := range []int{0, 1, 90, 91} {
						x := sending{kind, from, to, sum, until}
						if got := checkSend(t, c, x); len(got.State.Sent) == 3 {
							sent++
						}
					}
				}
			}
		}
	}
	if sent != 32 {
		t.Error(sent, "packets sent")
	}
}

// P36: amounts that a packet may not have, though the coins for them are there.
func TestChainSendTooMuchForPacket(t *testing.T) {
	c := richChain(1, "")
	c.Bank = bank([]int{30, 0, 0}, []int{30, 0, 0}, 0)
	for kind := 1; kind <= 2; kind++ {
		for sum := -30; sum <= 31; sum++ {
			checkSend(t, c, sending{kind, 1, 2, sum, 9})
		}
	}
}

// P36: as many coins as there are, and one more, of both kinds, and of each user; neither the other kind, nor locked coins, nor other users help.
func TestChainSendCoins(t *testing.T) {
	for has := 0; has <= 9; has++ {
		for user := 1; user <= impl.UserMax; user++ {
			own, notes := []int{9, 9, 9}, []int{10, 10, 10}
			own[user-1], notes[user-1] = has, 9-has
			c := richChain(1, "")
			c.Bank = bank(own, notes, supply-total(own))
			for sum := 0; sum <= 10; sum++ {
				checkSend(t, c, sending{1, user, 2, sum, 9})
				checkSend(t, c, sending{2, user, 2, sum, 9})
			}
		}
	}
}

// P35: native coins are locked, vouchers are destroyed, and no one else's amount changes.
func TestChainSendBank(t *testing.T) {
	c := richChain(1, "")
	for kind := 1; kind <= 2; kind++ {
		for user := 1; user <= impl.UserMax; user++ {
			for sum := 1; sum <= 9; sum++ {
				got := mustSend(t, c, sending{kind, user, 0, sum, 50})
				want, ok := impl.BankAway(c.Bank, kind, user, sum)
				if !ok || !sameBank(got.Bank, want) {
					t.Error(kind, user, sum, got.Bank)
				}
			}
		}
	}
}

// P35: the packet has the version of the state, also if earlier packets have another one.
func TestChainSendVersions(t *testing.T) {
	for ver := 1; ver <= 9; ver++ {
		for _, vers := range versionsOf(ver) {
			c := richChain(ver, "")
			c.State = makeState(impl.WayOpen, ver, "ldb", variedPacket, vers, gotLists[3]).state
			got := mustSend(t, c, sending{2, 3, 1, 9, 90})
			if p := got.State.Sent[3]; p != (impl.Packet{Seq: 4, Kind: 2, From: 3, To: 1, Sum: 9, Until: 90, Ver: ver}) || !impl.StateHas(got.State, p) {
				t.Error(ver, p)
			}
		}
	}
}

// P36: Until is not held against the heights of either chain.
func TestChainSendWhateverHeight(t *testing.T) {
	for _, heights := range heightCounts {
		for _, knows := range knowLists {
			c := chainOf(1, impl.BankNew(), endOf(impl.WayOpen, 1, "").state, heights, knows)
			for _, until := range []int{1, 2, 89, 90} {
				mustSend(t, c, sending{1, 1, 2, 3, until})
			}
		}
	}
}

// P35, P36, P37: up to SeqMax packets and one more, of both kinds, with blocks between.
func TestChainSendUpToLastPacket(t *testing.T) {
	c := richChain(1, "")
	for n := 1; n <= impl.SeqMax; n++ {
		if height, seq := impl.ChainNext(c); height != len(c.Past)+1 || seq != n {
			t.Error(n, height, seq)
		}
		c = mustSend(t, c, sending{1 + n%2, 1 + n%3, n % 4, 1, 10 * n})
		if n%3 == 0 {
			c = checkBlock(t, c)
		}
	}
	if height, seq := impl.ChainNext(c); height != 5 || seq != 0 {
		t.Error(height, seq)
	}
	for kind := 1; kind <= 2; kind++ {
		if got := checkSend(t, c, sending{kind, 1, 2, 1, 50}); len(got.State.Sent) != impl.SeqMax {
			t.Error(got)
		}
	}
}

// P36: packets that are settled count as well.
func TestChainSendAllSettled(t *testing.T) {
	for _, fates := range []string{"dddddddd", "bbbbbbbb", "llllllll", "dbldbldb"} {
		c := richChain(1, fates)
		if got, seq, ok := impl.ChainSend(c, 1, 1, 2, 1, 50); ok || seq != 0 || !sameChain(got, c) {
			t.Error(fates, got, seq, ok)
		}
		mustSend(t, richChain(1, fates[:7]), sending{1, 1, 2, 1, 50})
	}
}

// P39
func TestChainSendTwice(t *testing.T) {
	for n := 0; n <= impl.SeqMax-2; n++ {
		c := richChain(2, "ldbldbld"[:n])
		for _, x := range []sending{{1, 1, 2, 5, 9}, {2, 3, 0, 1, 90}} {
			for _, y := range []sending{{1, 1, 2, 5, 9}, {2, 3, 0, 1, 90}, {1, 2, 3, 9, 1}} {
				once, seq1, ok1 := impl.ChainSend(c, x.kind, x.from, x.to, x.sum, x.until)
				twice, seq2, ok2 := impl.ChainSend(once, y.kind, y.from, y.to, y.sum, y.until)
				if !ok1 || !ok2 || seq1 != n+1 || seq2 != n+2 {
					t.Fatal(n, x, y, seq1, seq2, ok1, ok2)
				}
				if twice.State.Sent[n] != x.packetOf(c) || twice.State.Sent[n+1] != y.packetOf(once) || !impl.StateHas(twice.State, once.State.Sent[n]) {
					t.Error(n, x, y, twice)
				}
				if !sameState(firstPackets(twice.State, n), c.State) {
					t.Error("earlier packets changed", n, x, y, twice)
				}
			}
		}
	}
}

// P39: what could not be sent takes no number.
func TestChainSendAfterRefusal(t *testing.T) {
	c := richChain(1, "")
	c = mustSend(t, c, sending{1, 1, 2, 3, 9})
	c = checkSend(t, c, sending{1, 1, 2, 8, 9})
	c = checkSend(t, c, sending{1, 1, 4, 1, 9})
	c = mustSend(t, c, sending{1, 1, 2, 7, 9})
	if len(c.State.Sent) != 2 || c.State.Sent[1].Seq != 2 || c.Bank.Locked != 10 || c.Bank.Own[0] != 0 {
		t.Error(c)
	}
}

// P37
func TestChainNext(t *testing.T) {
	for _, c := range validChains() {
		wantHeight, wantSeq := len(c.Past)+1, len(c.State.Sent)+1
		if wantHeight == 91 {
			wantHeight = 0
		}
		if wantSeq == 9 {
			wantSeq = 0
		}
		if height, seq := impl.ChainNext(c); height != wantHeight || seq != wantSeq {
			t.Errorf("%d heights and %d packets: %d, %d", len(c.Past), len(c.State.Sent), height, seq)
		}
		height, seq := impl.ChainNext(impl.ChainBlock(c))
		if seq != wantSeq || wantHeight > 0 && wantHeight < 90 && height != wantHeight+1 || wantHeight%90 == 0 && height != 0 {
			t.Errorf("after a block behind %d heights: %d, %d", len(c.Past), height, seq)
		}
	}
}

// P37: for every number of heights and of packets, whatever the channel's Way.
func TestChainNextAllCounts(t *testing.T) {
	for heights := 0; heights <= 90; heights++ {
		for packets := 0; packets <= 8; packets++ {
			c := chainOf(1, impl.BankNew(), endOf(ways[(heights+packets)%5], 1, "ldbldbld"[:packets]).state, heights, []int{90})
			height, seq := impl.ChainNext(c)
			if height != (heights+1)%91 || seq != (packets+1)%9 {
				t.Errorf("%d heights and %d packets: %d, %d", heights, packets, height, seq)
			}
		}
	}
}

// P38, P41: fewer known heights, down to none.
func TestChainFewerKnownHeights(t *testing.T) {
	for _, c := range fewChains() {
		for i := range c.Knows {
			fewer := [][]int{c.Knows[:i], c.Knows[i:], slices.Delete(slices.Clone(c.Knows), i, i+1), nil, {}}
			for _, knows := range fewer {
				if d := changedChain(c, func(c *impl.Chain) { c.Knows = knows }); !impl.ChainOk(d) {
					t.Error("refused", d)
				}
			}
		}
	}
}

// P38: fewer heights, at either end or in the middle.
func TestChainFewerHeights(t *testing.T) {
	for _, c := range fewChains() {
		for i := range c.Past {
			past := copyStates(c.Past)
			for _, fewer := range [][]impl.State{past[:i], past[i:], slices.Delete(slices.Clone(past), i, i+1), nil} {
				d := changedChain(c, func(c *impl.Chain) { c.Past = fewer })
				if height, _ := impl.ChainNext(d); !impl.ChainOk(d) || height != (len(fewer)+1)%91 {
					t.Errorf("with %d heights: %v", len(fewer), impl.ChainOk(d))
				}
			}
		}
	}
}

// P38: any two known heights exchanged.
func TestChainKnownHeightsExchanged(t *testing.T) {
	for _, c := range fewChains() {
		for i := range c.Knows {
			for j := range i {
				d := changedChain(c, func(c *impl.Chain) { c.Knows[i], c.Knows[j] = c.Knows[j], c.Knows[i] })
				if impl.ChainOk(d) {
					t.Error("accepted", d.Knows)
				}
			}
		}
	}
}

// P41: a known height out of range, in each place, and a further one.
func TestChainKnownHeightOutOfRange(t *testing.T) {
	for _, c := range fewChains() {
		for _, height := range append([]int{0, -1, -90, 91, 92, 180, 1<<8 + 90, 1<<16 + 90, 1<<32 + 90}, farNumbers...) {
			for i := range c.Knows {
				d := changedChain(c, func(c *impl.Chain) { c.Knows[i] = height })
				if impl.ChainOk(d) {
					t.Error("accepted", d.Knows)
				}
			}
			for _, at := range []int{0, len(c.Knows)} {
				d := changedChain(c, func(c *impl.Chain) { c.Knows = slices.Insert(c.Knows, at, height) })
				if impl.ChainOk(d) {
					t.Error("accepted", d.Knows)
				}
			}
		}
	}
}

// P34: a chain from the beginning on; after each thing that it does, each height that has ended is as it was at its end.
func TestChainStateAtHeight(t *testing.T) {
	c, _ := impl.ChainNew(1)
	var past []impl.State
	end := func() {
		past = append(past, copyState(c.State))
		c = checkBlock(t, c)
		checkHeights(t, "ended", c, past)
	}
	end()
	c.State = mustDo(t, c.State, impl.StateNew(), impl.StepInit)
	end()
	c.State = mustDo(t, c.State, endOf(impl.WayTry, 1, "").state, impl.StepAck)
	end()
	for n := 1; n <= impl.SeqMax; n++ {
		c = mustSend(t, c, sending{1, 1 + n%3, n % 4, 1 + n%3, 10 * n})
		checkHeights(t, "sent", c, past)
		end()
	}
	c = checkSend(t, c, sending{1, 1, 2, 1, 90})
	checkHeights(t, "refused", c, past)
	for n := 1; n <= impl.SeqMax; n++ {
		c.State.Live[n-1], c.State.Back[n-1], c.State.Got[n-1] = false, n%2 == 0, n%3
		end()
	}
	for len(past) < impl.HeightMax {
		end()
	}
	c.State.Got[0] = impl.GotBad
	checkHeights(t, "one block too many", checkBlock(t, c), past)
}

// P34: what a caller writes into the lists of a result changes no height.
func TestChainAtWhateverIsWritten(t *testing.T) {
	for _, heights := range []int{1, 2, 5, impl.HeightMax - 1, impl.HeightMax} {
		c := richChain(2, "ldb")
		c.Past = pastOf(heights)
		past := copyStates(c.Past)
		for height := 1; height <= heights; height++ {
			first, _ := impl.ChainAt(c, height)
			second, _ := impl.ChainAt(c, height)
			checkPlaces(t, "ChainAt", chainPlaces(c), statePlaces(first), statePlaces(second))
			spoil(first)
			if !sameState(second, past[height-1]) {
				t.Errorf("height %d changed with another result", height)
			}
		}
		checkHeights(t, "states written to", c, past)
		spoilChain(impl.ChainBlock(c))
		sent, _, _ := impl.ChainSend(c, 1, 1, 2, 3, 9)
		spoilChain(sent)
		same, _, _ := impl.ChainSend(c, 1, 1, 2, 10, 9)
		spoilChain(same)
		checkHeights(t, "chains written to", c, past)
	}
}

// P34: the state of a chain and that of the height that has just ended are apart.
func TestChainAtAfterStateIsWritten(t *testing.T) {
	c := richChain(2, "ldb")
	c.Past = nil
	want := copyState(c.State)
	c = impl.ChainBlock(c)
	spoil(c.State)
	c.State = copyState(want)
	checkHeights(t, "state written to", c, []impl.State{want})
	c = impl.ChainBlock(c)
	spoil(c.Past[0])
	c.Past[0] = impl.StateNew()
	checkHeights(t, "height written to", c, []impl.State{impl.StateNew(), want})
	if !sameState(c.State, want) {
		t.Error(c.State)
	}
}

// General rules: arguments stay as they are, also beyond the length of their lists, nothing there is looked at, and results share no memory.
func TestChainMemory(t *testing.T) {
	for i, made := range validChains() {
		if len(made.Past) > 2 && i%5 != i/5%5 {
			continue // most of the long ones are left out: they take long
		}
		c := roomyChain(made)
		before := copyChain(wholeChain(c))
		block, again := checkBlock(t, c), checkBlock(t, c)
		sent, same := checkSend(t, c, sending{1, 1, 2, 3, 9}), checkSend(t, c, sending{1, 1, 2, 10, 9})
		checkPlaces(t, "results", chainPlaces(c), chainPlaces(block), chainPlaces(again), chainPlaces(sent), chainPlaces(same))
		for _, result := range []impl.Chain{block, again, sent, same} {
			spoilChain(result)
		}
		impl.ChainAt(c, 1)
		impl.ChainNext(c)
		if !impl.ChainOk(c) || !sameChain(wholeChain(c), before) {
			t.Errorf("argument changed: %v", made)
		}
	}
}

// General rules: a chain whose lists are parts of one list is a chain like any other, and stays as it is.
func TestChainOfSharedLists(t *testing.T) {
	flags := make([]bool, 16)
	numbers := make([]int, 16)
	s := impl.State{Way: impl.WayOpen, Ver: 1, Sent: []impl.Packet{alikePacket(1)}, Live: flags[:1], Back: flags[:1], Got: numbers[:8]}
	c := impl.Chain{Id: 1, Bank: bank([]int{10, 10, 10}, numbers[:3], 0), State: s, Past: []impl.State{s, s, s}}
	for _, result := range []impl.Chain{checkBlock(t, c), mustSend(t, c, sending{1, 1, 2, 3, 9}), checkSend(t, c, sending{2, 1, 2, 3, 9})} {
		checkPlaces(t, "of shared lists", chainPlaces(result))
	}
	if slices.Contains(flags, true) || total(numbers) != 0 {
		t.Error(flags, numbers)
	}
}

// General rules: no two results of ChainNew share memory, and functions keep no state.
func TestChainNoState(t *testing.T) {
	first, _ := impl.ChainNew(1)
	second, _ := impl.ChainNew(2)
	checkPlaces(t, "ChainNew", chainPlaces(first), chainPlaces(second))
	spoilChain(first)
	checkNoChain(t, "spoiled", first)
	if third, ok := impl.ChainNew(2); !ok || !sameChain(second, third) {
		t.Error(second, third)
	}
	for _, c := range fewChains() {
		once := impl.ChainBlock(c)
		checkSend(t, c, sending{1, 1, 2, 1, 9})
		if !sameChain(once, impl.ChainBlock(c)) {
			t.Error(c)
		}
	}
}

// A list of any length is answered, and no number makes a function panic.
func TestChainFarNumbers(t *testing.T) {
	c := richChain(1, "l")
	for _, far := range append([]int{math.MaxInt, math.MinInt}, farNumbers...) {
		checkSend(t, c, sending{far, far, far, far, far})
	}
	long := changedChain(c, func(c *impl.Chain) { c.Knows = make([]int, 1000000) })
	checkNoChain(t, "many known heights", long)
	long = changedChain(c, func(c *impl.Chain) { c.Past = make([]impl.State, 100000) })
	checkNoChain(t, "many heights", long)
}
