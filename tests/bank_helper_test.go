package tests

import (
	"math"
	"slices"
	"testing"

	"loop.example/hawser/impl"
)

const supply = impl.UserMax * impl.BankStart

var bankKinds = []int{impl.CoinOwn, impl.CoinNote}

// noKinds and noUsers are numbers that name neither a kind of coins nor a user.
var (
	noKinds = []int{0, 3, -1, -2, math.MaxInt, math.MinInt}
	noUsers = []int{0, impl.UserMax + 1, -1, -impl.UserMax, math.MaxInt, math.MinInt}
)

func bank(own, notes []int, locked int) impl.Bank {
	return impl.Bank{Own: own, Notes: notes, Locked: locked}
}

func copyBank(b impl.Bank) impl.Bank {
	return bank(slices.Clone(b.Own), slices.Clone(b.Notes), b.Locked)
}

func sameBank(a, b impl.Bank) bool {
	return slices.Equal(a.Own, b.Own) && slices.Equal(a.Notes, b.Notes) && a.Locked == b.Locked
}

func zeroBank(b impl.Bank) bool {
	return len(b.Own) == 0 && len(b.Notes) == 0 && b.Locked == 0
}

// amount is what a user has; the user and the kind exist.
func amount(b impl.Bank, kind, user int) int {
	if kind == impl.CoinOwn {
		return b.Own[user-1]
	}
	return b.Notes[user-1]
}

// with is a copy of a bank in which a user has more, by an amount that may be negative.
func with(b impl.Bank, kind, user, more int) impl.Bank {
	c := copyBank(b)
	if kind == impl.CoinOwn {
		c.Own[user-1] += more
	} else {
		c.Notes[user-1] += more
	}
	return c
}

// withLocked is a copy of a bank with more coins locked.
func withLocked(b impl.Bank, more int) impl.Bank {
	c := copyBank(b)
	c.Locked += more
	return c
}

func total(list []int) int {
	n := 0
	for _, x := range list {
		n += x
	}
	return n
}

// layouts are lists of amounts of all users that add up to the supply at most, with both ends of the range.
func layouts() [][]int {
	values := []int{0, 1, 10, 15, 29, 30}
	out := [][]int{{}}
	for range impl.UserMax {
		var longer [][]int
		for _, list := range out {
			for _, v := range values {
				if total(list)+v <= supply {
					longer = append(longer, append(slices.Clone(list), v))
				}
			}
		}
		out = longer
	}
	return out
}

// validBanks has every pair of layouts of native coins and of vouchers; what is left of the native coins is locked.
func validBanks() []impl.Bank {
	var out []impl.Bank
	for _, own := range layouts() {
		for _, notes := range layouts() {
			out = append(out, copyBank(bank(own, notes, supply-total(own))))
		}
	}
	return out
}

type namedBank struct {
	name string
	bank impl.Bank
}

func invalidBanks() []namedBank {
	ten, none := []int{10, 10, 10}, []int{0, 0, 0}
	return []namedBank{
		{"zero value", impl.Bank{}},
		{"empty lists", bank([]int{}, []int{}, supply)},
		{"no native list", bank(nil, none, supply)},
		{"no voucher list", bank(ten, nil, 0)},
		{"short native list", bank([]int{10, 10}, none, 10)},
		{"long native list", bank([]int{10, 10, 10, 0}, none, 0)},
		{"short voucher list", bank(ten, []int{0, 0}, 0)},
		{"long voucher list", bank(ten, []int{0, 0, 0, 0}, 0)},
		{"negative native amount", bank([]int{-1, 10, 10}, none, 11)},
		{"negative native amount made up by another user", bank([]int{-1, 21, 10}, none, 0)},
		{"negative last native amount", bank([]int{15, 16, -1}, none, 0)},
		{"native amount above the supply", bank([]int{supply + 1, 0, 0}, none, 0)},
		{"native amount above the supply made up by another user", bank([]int{supply + 1, -1, 0}, none, 0)},
		{"native amount above the supply made up by Locked", bank([]int{supply + 1, 0, 0}, none, -1)},
		{"negative voucher amount", bank(ten, []int{-1, 0, 0}, 0)},
		{"negative voucher amount made up by another user", bank(ten, []int{0, 1, -1}, 0)},
		{"voucher amount above the supply", bank(ten, []int{supply + 1, 0, 0}, 0)},
		{"voucher amount above the supply made up by another user", bank(ten, []int{0, supply + 1, -1}, 0)},
		{"one voucher too many", bank(ten, []int{10, 10, 11}, 0)},
		{"vouchers of all users at the supply", bank(ten, []int{supply, supply, supply}, 0)},
		{"native amounts of all users at the supply", bank([]int{supply, supply, supply}, none, 0)},
		{"negative Locked", bank([]int{10, 10, 11}, none, -1)},
		{"negative Locked made up by large amounts", bank([]int{20, 20, 20}, none, -30)},
		{"one native coin missing", bank([]int{10, 10, 9}, none, 0)},
		{"one native coin too many", bank([]int{10, 10, 11}, none, 0)},
		{"one locked coin too many", bank(ten, none, 1)},
		{"one locked coin missing", bank([]int{10, 10, 5}, none, 4)},
		{"all coins locked and one more", bank(none, none, supply+1)},
		{"no coins at all", bank(none, none, 0)},
		{"largest Locked", bank(ten, none, math.MaxInt)},
		{"smallest Locked", bank(ten, none, math.MinInt)},
		{"native amounts that wrap around", bank([]int{math.MaxInt, math.MaxInt, supply + 2}, none, 0)},
		{"Locked that wraps around", bank([]int{math.MinInt, 0, 0}, none, math.MinInt+supply)},
		{"voucher amounts that wrap around", bank(ten, []int{math.MaxInt, math.MaxInt, 2}, 0)},
		{"voucher amount at the smallest number", bank(ten, []int{math.MinInt, 0, 0}, 0)},
	}
}

// sumsAround are amounts around an edge, and those that no transfer may have.
func sumsAround(edge int) []int {
	return []int{0, 1, edge - 1, edge, edge + 1, -1, supply, supply + 1, math.MaxInt, math.MinInt}
}

// roomy is a copy of a bank whose lists have spare capacity, filled with marks.
func roomy(b impl.Bank) impl.Bank {
	return bank(roomyList(b.Own), roomyList(b.Notes), b.Locked)
}

func roomyList(list []int) []int {
	big := make([]int, len(list)+4)
	for i := range big {
		big[i] = 777
	}
	copy(big, list)
	return big[:len(list)]
}

// whole is a list up to its capacity.
func whole(list []int) []int {
	return list[:cap(list)]
}

func wholeBank(b impl.Bank) impl.Bank {
	return bank(whole(b.Own), whole(b.Notes), b.Locked)
}

func fill(list []int, mark int) {
	for i := range whole(list) {
		whole(list)[i] = mark
	}
}

// checkApart checks that a result shares nothing with the banks, nor its lists with each other. It spoils the result.
func checkApart(t *testing.T, name string, result impl.Bank, banks ...impl.Bank) {
	t.Helper()
	var before []impl.Bank
	for _, b := range banks {
		before = append(before, copyBank(wholeBank(b)))
	}
	notes := slices.Clone(whole(result.Notes))
	fill(result.Own, 555)
	if !slices.Equal(whole(result.Notes), notes) {
		t.Errorf("%s: the lists of the result share memory", name)
	}
	fill(result.Notes, 666)
	for i, b := range banks {
		if !sameBank(wholeBank(b), before[i]) {
			t.Errorf("%s: the result shares memory with bank %d", name, i)
		}
	}
}
