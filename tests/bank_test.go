package tests

import (
	"math"
	"testing"

	"loop.example/hawser/impl"
)

func TestBankNew(t *testing.T) {
	b := impl.BankNew()
	if !sameBank(b, bank([]int{10, 10, 10}, []int{0, 0, 0}, 0)) || !impl.BankOk(b) {
		t.Error(b)
	}
}

func TestBankOk(t *testing.T) {
	for _, b := range validBanks() {
		if !impl.BankOk(b) {
			t.Error("valid bank refused", b)
		}
	}
	for _, x := range invalidBanks() {
		if impl.BankOk(x.bank) {
			t.Error("invalid bank accepted:", x.name, x.bank)
		}
	}
}

// P1
func TestBankAllOfValidBank(t *testing.T) {
	first, _ := impl.BankAll(impl.BankNew())
	if first != supply {
		t.Error("native coins at first", first)
	}
	for _, b := range validBanks() {
		own, notes := impl.BankAll(b)
		if own != first || own != total(b.Own)+b.Locked || notes != total(b.Notes) || notes > first {
			t.Error(b, own, notes)
		}
	}
}

// P1
func TestBankAllOfInvalidBank(t *testing.T) {
	for _, x := range invalidBanks() {
		if own, notes := impl.BankAll(x.bank); own != -1 || notes != -1 {
			t.Error(x.name, own, notes)
		}
	}
}

// P1: what the functions return is valid, too.
func TestBankAllAfterChange(t *testing.T) {
	check := func(b impl.Bank, ok bool) {
		if !ok {
			return
		}
		if own, notes := impl.BankAll(b); own != supply || notes < 0 || notes > supply {
			t.Error(b, own, notes)
		}
	}
	for _, b := range validBanks() {
		for _, kind := range bankKinds {
			for user := 1; user <= impl.UserMax; user++ {
				for _, sum := range []int{0, 1, amount(b, kind, user), b.Locked, supply - total(b.Notes)} {
					check(impl.BankMove(b, kind, user, user%impl.UserMax+1, sum))
					check(impl.BankAway(b, kind, user, sum))
					check(impl.BankBack(b, kind, user, sum))
				}
			}
		}
	}
}

// P2
func TestBankMove(t *testing.T) {
	for _, b := range validBanks() {
		for _, kind := range bankKinds {
			for from := 1; from <= impl.UserMax; from++ {
				for to := 1; to <= impl.UserMax; to++ {
					checkMoves(t, b, kind, from, to)
				}
			}
		}
	}
}

func checkMoves(t *testing.T, b impl.Bank, kind, from, to int) {
	t.Helper()
	has := amount(b, kind, from)
	for _, sum := range sumsAround(has) {
		got, ok := impl.BankMove(b, kind, from, to, sum)
		if ok != (sum >= 0 && sum <= has) {
			t.Error(b, kind, from, to, sum, ok)
		}
		if !ok && !zeroBank(got) {
			t.Error("not the zero value", got)
		}
		if ok && !sameBank(got, with(with(b, kind, from, -sum), kind, to, sum)) {
			t.Error(b, kind, from, to, sum, got)
		}
	}
}

// P2: a transfer from a user to the same user changes nothing, but the amount must be there.
func TestBankMoveToSameUser(t *testing.T) {
	b := bank([]int{6, 10, 10}, []int{0, 7, 0}, 4)
	for _, sum := range []int{0, 1, 6} {
		if got, ok := impl.BankMove(b, impl.CoinOwn, 1, 1, sum); !ok || !sameBank(got, b) {
			t.Error(sum, got, ok)
		}
	}
	for _, sum := range []int{-1, 7} {
		if got, ok := impl.BankMove(b, impl.CoinOwn, 1, 1, sum); ok || !zeroBank(got) {
			t.Error(sum, got, ok)
		}
	}
}

// P2: locked coins belong to nobody.
func TestBankMoveNotLocked(t *testing.T) {
	b := bank([]int{0, 0, 0}, []int{0, 0, 0}, supply)
	for user := 1; user <= impl.UserMax; user++ {
		if got, ok := impl.BankMove(b, impl.CoinOwn, user, 1, 1); ok || !zeroBank(got) {
			t.Error(user, got, ok)
		}
	}
	if got, ok := impl.BankMove(b, impl.CoinOwn, 1, 2, 0); !ok || !sameBank(got, b) {
		t.Error(got, ok)
	}
}

// P2, P4, P6
func TestBankInvalidBank(t *testing.T) {
	for _, x := range invalidBanks() {
		for _, kind := range bankKinds {
			for _, sum := range []int{0, 1} {
				checkRefused(t, x.name, x.bank, kind, 1, 2, sum)
			}
		}
	}
}

// checkRefused checks that none of the three functions accepts these arguments.
func checkRefused(t *testing.T, name string, b impl.Bank, kind, from, to, sum int) {
	t.Helper()
	if got, ok := impl.BankMove(b, kind, from, to, sum); ok || !zeroBank(got) {
		t.Error("BankMove", name, kind, from, to, sum, got, ok)
	}
	if got, ok := impl.BankAway(b, kind, from, sum); ok || !zeroBank(got) {
		t.Error("BankAway", name, kind, from, sum, got, ok)
	}
	if got, ok := impl.BankBack(b, kind, from, sum); ok || !zeroBank(got) {
		t.Error("BankBack", name, kind, from, sum, got, ok)
	}
}

// P2, P4, P6
func TestBankInvalidKindUserSum(t *testing.T) {
	b := bank([]int{6, 10, 10}, []int{2, 7, 0}, 4)
	for _, kind := range noKinds {
		for _, sum := range []int{0, 1} {
			checkRefused(t, "no such kind", b, kind, 1, 2, sum)
		}
	}
	for _, kind := range bankKinds {
		for _, user := range noUsers {
			for _, sum := range []int{0, 1} {
				checkRefused(t, "no such user", b, kind, user, 1, sum)
				if got, ok := impl.BankMove(b, kind, 1, user, sum); ok || !zeroBank(got) {
					t.Error("BankMove to no such user", kind, user, sum, got, ok)
				}
			}
		}
		for _, sum := range []int{-1, -supply, math.MinInt, supply + 1, math.MaxInt} {
			checkRefused(t, "no such sum", b, kind, 1, 2, sum)
		}
	}
}

// P3
func TestBankMoveAndReverse(t *testing.T) {
	for _, b := range validBanks() {
		for _, kind := range bankKinds {
			for from := 1; from <= impl.UserMax; from++ {
				for to := 1; to <= impl.UserMax; to++ {
					has := amount(b, kind, from)
					for _, sum := range []int{0, has / 2, has} {
						there, ok1 := impl.BankMove(b, kind, from, to, sum)
						back, ok2 := impl.BankMove(there, kind, to, from, sum)
						if !ok1 || !ok2 || !sameBank(back, b) {
							t.Error(b, kind, from, to, sum, back)
						}
					}
				}
			}
		}
	}
}

// P3
func TestBankMoveTwice(t *testing.T) {
	for _, b := range validBanks() {
		for _, kind := range bankKinds {
			for from := 1; from <= impl.UserMax; from++ {
				for to := 1; to <= impl.UserMax; to++ {
					has := amount(b, kind, from)
					for _, first := range []int{0, has / 3, has} {
						checkMoveTwice(t, b, kind, from, to, first, (has-first)/2)
						checkMoveTwice(t, b, kind, from, to, first, has-first)
					}
				}
			}
		}
	}
}

func checkMoveTwice(t *testing.T, b impl.Bank, kind, from, to, first, second int) {
	t.Helper()
	one, ok1 := impl.BankMove(b, kind, from, to, first)
	two, ok2 := impl.BankMove(one, kind, from, to, second)
	all, ok := impl.BankMove(b, kind, from, to, first+second)
	if !ok1 || !ok2 || !ok || !sameBank(two, all) {
		t.Error(b, kind, from, to, first, second, two, all)
	}
}

// P4
func TestBankAway(t *testing.T) {
	for _, b := range validBanks() {
		for _, kind := range bankKinds {
			for from := 1; from <= impl.UserMax; from++ {
				checkAways(t, b, kind, from)
			}
		}
	}
}

func checkAways(t *testing.T, b impl.Bank, kind, from int) {
	t.Helper()
	has := amount(b, kind, from)
	for _, sum := range sumsAround(has) {
		got, ok := impl.BankAway(b, kind, from, sum)
		if ok != (sum >= 0 && sum <= has) {
			t.Error(b, kind, from, sum, ok)
		}
		if !ok && !zeroBank(got) {
			t.Error("not the zero value", got)
		}
		if !ok {
			continue
		}
		want := with(b, kind, from, -sum)
		if kind == impl.CoinOwn {
			want = withLocked(want, sum)
		}
		if !sameBank(got, want) {
			t.Error(b, kind, from, sum, got)
		}
	}
}

// P4: native coins that are locked are not the user's any more, and vouchers are no native coins.
func TestBankAwayOwnLocked(t *testing.T) {
	b, ok := impl.BankAway(impl.BankNew(), impl.CoinOwn, 2, 10)
	if !ok || !sameBank(b, bank([]int{10, 0, 10}, []int{0, 0, 0}, 10)) {
		t.Fatal(b, ok)
	}
	if got, ok := impl.BankAway(b, impl.CoinOwn, 2, 1); ok || !zeroBank(got) {
		t.Error(got, ok)
	}
	n := bank([]int{6, 10, 10}, []int{0, 7, 0}, 4)
	if got, ok := impl.BankAway(n, impl.CoinNote, 2, 7); !ok || !sameBank(got, bank([]int{6, 10, 10}, []int{0, 0, 0}, 4)) {
		t.Error(got, ok)
	}
}

// P5
func TestBankAwayAndBack(t *testing.T) {
	for _, b := range validBanks() {
		for _, kind := range bankKinds {
			for user := 1; user <= impl.UserMax; user++ {
				has := amount(b, kind, user)
				for _, sum := range []int{0, has / 2, has} {
					away, ok1 := impl.BankAway(b, kind, user, sum)
					back, ok2 := impl.BankBack(away, kind, user, sum)
					if !ok1 || !ok2 || !sameBank(back, b) {
						t.Error(b, kind, user, sum, back)
					}
				}
			}
		}
	}
}

// P6
func TestBankBack(t *testing.T) {
	for _, b := range validBanks() {
		for to := 1; to <= impl.UserMax; to++ {
			checkBacks(t, b, impl.CoinOwn, to, b.Locked)
			checkBacks(t, b, impl.CoinNote, to, supply-total(b.Notes))
		}
	}
}

func checkBacks(t *testing.T, b impl.Bank, kind, to, room int) {
	t.Helper()
	for _, sum := range sumsAround(room) {
		got, ok := impl.BankBack(b, kind, to, sum)
		if ok != (sum >= 0 && sum <= room) {
			t.Error(b, kind, to, sum, ok)
		}
		if !ok && !zeroBank(got) {
			t.Error("not the zero value", got)
		}
		if !ok {
			continue
		}
		want := with(b, kind, to, sum)
		if kind == impl.CoinOwn {
			want = withLocked(want, -sum)
		}
		if !sameBank(got, want) {
			t.Error(b, kind, to, sum, got)
		}
	}
}

// P6: vouchers up to the supply and one beyond it, over all users; locked coins do not matter for them.
func TestBankBackEdges(t *testing.T) {
	b := bank([]int{6, 10, 10}, []int{2, 7, 0}, 4)
	if got, ok := impl.BankBack(b, impl.CoinNote, 3, 21); !ok || !sameBank(got, bank([]int{6, 10, 10}, []int{2, 7, 21}, 4)) {
		t.Error(got, ok)
	}
	if got, ok := impl.BankBack(b, impl.CoinNote, 3, 22); ok || !zeroBank(got) {
		t.Error(got, ok)
	}
	if got, ok := impl.BankBack(b, impl.CoinOwn, 2, 4); !ok || !sameBank(got, bank([]int{6, 14, 10}, []int{2, 7, 0}, 0)) {
		t.Error(got, ok)
	}
	if got, ok := impl.BankBack(b, impl.CoinOwn, 2, 5); ok || !zeroBank(got) {
		t.Error(got, ok)
	}
	if got, ok := impl.BankBack(impl.BankNew(), impl.CoinNote, 1, supply); !ok || got.Notes[0] != supply {
		t.Error(got, ok)
	}
	all := bank([]int{0, 0, 0}, []int{0, 0, supply}, supply)
	if got, ok := impl.BankBack(all, impl.CoinOwn, 3, supply); !ok || !sameBank(got, bank([]int{0, 0, supply}, []int{0, 0, supply}, 0)) {
		t.Error(got, ok)
	}
	if got, ok := impl.BankBack(all, impl.CoinNote, 1, 1); ok || !zeroBank(got) {
		t.Error(got, ok)
	}
}

// P7
func TestBankOkOneCoinMore(t *testing.T) {
	for _, b := range validBanks() {
		if impl.BankOk(withLocked(b, 1)) {
			t.Error("one locked coin more", b)
		}
		for user := 1; user <= impl.UserMax; user++ {
			if impl.BankOk(with(b, impl.CoinOwn, user, 1)) {
				t.Error("one native coin more", b, user)
			}
		}
	}
}

// P7: a negative amount is invalid also where the total is right.
func TestBankOkNegativeAmount(t *testing.T) {
	for _, b := range validBanks() {
		for user := 1; user <= impl.UserMax; user++ {
			own, notes := amount(b, impl.CoinOwn, user), amount(b, impl.CoinNote, user)
			next := user%impl.UserMax + 1
			for _, x := range []impl.Bank{
				with(b, impl.CoinOwn, user, -own-1),
				withLocked(with(b, impl.CoinOwn, user, -own-1), own+1),
				with(with(b, impl.CoinOwn, user, -own-1), impl.CoinOwn, next, own+1),
				with(b, impl.CoinNote, user, -notes-1),
				with(with(b, impl.CoinNote, user, -notes-1), impl.CoinNote, next, notes+1),
				withLocked(b, -b.Locked-1),
				withLocked(with(b, impl.CoinOwn, user, b.Locked+1), -b.Locked-1),
			} {
				if impl.BankOk(x) {
					t.Error("negative amount", x)
				}
			}
		}
	}
}

// P8
func TestBankMovesCommute(t *testing.T) {
	for _, b := range validBanks() {
		for from := 1; from <= impl.UserMax; from++ {
			for to := 1; to <= impl.UserMax; to++ {
				own, notes := amount(b, impl.CoinOwn, from), amount(b, impl.CoinNote, to)
				a1, ok1 := impl.BankMove(b, impl.CoinOwn, from, to, own)
				a2, ok2 := impl.BankMove(a1, impl.CoinNote, to, from, notes)
				b1, ok3 := impl.BankMove(b, impl.CoinNote, to, from, notes)
				b2, ok4 := impl.BankMove(b1, impl.CoinOwn, from, to, own)
				if !ok1 || !ok2 || !ok3 || !ok4 || !sameBank(a2, b2) {
					t.Error(b, from, to, a2, b2)
				}
			}
		}
	}
}

// P9
func TestBankAwayTwice(t *testing.T) {
	for _, b := range validBanks() {
		for _, kind := range bankKinds {
			for from := 1; from <= impl.UserMax; from++ {
				has := amount(b, kind, from)
				for _, first := range []int{0, has / 3, has} {
					checkAwayTwice(t, b, kind, from, first, (has-first)/2)
					checkAwayTwice(t, b, kind, from, first, has-first)
				}
			}
		}
	}
}

func checkAwayTwice(t *testing.T, b impl.Bank, kind, from, first, second int) {
	t.Helper()
	one, ok1 := impl.BankAway(b, kind, from, first)
	two, ok2 := impl.BankAway(one, kind, from, second)
	all, ok := impl.BankAway(b, kind, from, first+second)
	if !ok1 || !ok2 || !ok || !sameBank(two, all) {
		t.Error(b, kind, from, first, second, two, all)
	}
}

// General rules: no argument is modified, up to its capacity, and no result shares memory.
func TestBankMemory(t *testing.T) {
	a, b := impl.BankNew(), impl.BankNew()
	checkApart(t, "BankNew", a, b)
	for _, x := range append([]namedBank{{"valid", bank([]int{6, 10, 10}, []int{2, 7, 0}, 4)}}, invalidBanks()...) {
		for _, kind := range bankKinds {
			for _, sum := range []int{0, 1, 2, 25} {
				checkMemory(t, x, kind, sum)
			}
		}
	}
}

func checkMemory(t *testing.T, x namedBank, kind, sum int) {
	t.Helper()
	arg := roomy(x.bank)
	before := copyBank(wholeBank(arg))
	impl.BankOk(arg)
	impl.BankAll(arg)
	move, _ := impl.BankMove(arg, kind, 1, 2, sum)
	same, _ := impl.BankMove(arg, kind, 2, 2, sum)
	away, _ := impl.BankAway(arg, kind, 1, sum)
	back, _ := impl.BankBack(arg, kind, 1, sum)
	if !sameBank(wholeBank(arg), before) {
		t.Error("argument modified", x.name, kind, sum)
	}
	checkApart(t, "BankMove", move, arg, same, away, back)
	checkApart(t, "BankMove to the same user", same, arg, move, away, back)
	checkApart(t, "BankAway", away, arg, move, same, back)
	checkApart(t, "BankBack", back, arg, move, same, away)
}

// General rules: no state is kept between calls.
func TestBankNoState(t *testing.T) {
	b := impl.BankNew()
	first, _ := impl.BankAway(b, impl.CoinOwn, 1, 4)
	impl.BankBack(first, impl.CoinNote, 3, 5)
	again, ok := impl.BankAway(b, impl.CoinOwn, 1, 4)
	if !ok || !sameBank(first, again) || !sameBank(impl.BankNew(), b) {
		t.Error(first, again)
	}
}
