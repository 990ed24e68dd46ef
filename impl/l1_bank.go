package impl

// UserMax is how many have an account on a chain, and BankStart what each has at first.
const (
	UserMax   = 3
	BankStart = 10
)

// Kinds of coins: of a chain itself, and notes for coins of the other chain.
const (
	CoinOwn  = 1
	CoinNote = 2
)

// bankSupply bounds notes as well as own coins, because there is a note at most for each coin of the other chain.
const bankSupply = UserMax * BankStart

// Bank is what each user has of own coins, and of notes, and how many own coins are locked.
type Bank struct {
	Own    []int
	Notes  []int
	Locked int
}

// ledger is a bank that is being changed. Its maps are copies, so the bank that it was made from stays as it is.
// A user who does not exist has no entry.
type ledger struct {
	own    map[int]int
	notes  map[int]int
	locked int
}

func (l ledger) ownAmounts() map[int]int {
	return l.own
}

func (l ledger) noteAmounts() map[int]int {
	return l.notes
}

// bank makes new lists, so that no two results share memory.
func (l ledger) bank() Bank {
	return Bank{Own: amountList(l.own), Notes: amountList(l.notes), Locked: l.locked}
}

// room is the most that a user can be given: own coins come out of the locked ones only.
func (l ledger) room(kind int) int {
	if kind == CoinOwn {
		return l.locked
	}
	return bankSupply - amountSum(amountList(l.notes))
}

// amountMap numbers users from 1, as the chains do.
func amountMap(list []int) map[int]int {
	amounts := make(map[int]int, len(list))
	for i, amount := range list {
		amounts[i+1] = amount
	}
	return amounts
}

// amountList follows the numbers of users, because the order in which a map is ranged over is not fixed.
func amountList(amounts map[int]int) []int {
	list := make([]int, len(amounts))
	for i := range list {
		list[i] = amounts[i+1]
	}
	return list
}

func amountSum(list []int) int {
	sum := 0
	for _, amount := range list {
		sum += amount
	}
	return sum
}

// amountsOk bounds each amount, so that their sum cannot overflow.
func amountsOk(list []int) bool {
	if len(list) != UserMax {
		return false
	}
	for _, amount := range list {
		if amount < 0 || amount > bankSupply {
			return false
		}
	}
	return true
}

// kindAmounts is the part of a ledger that holds a kind of coins.
func kindAmounts(kind int) (func(ledger) map[int]int, bool) {
	switch kind {
	case CoinOwn:
		return ledger.ownAmounts, true
	case CoinNote:
		return ledger.noteAmounts, true
	}
	return nil, false
}

// openLedger is the ledger of a valid bank, with its amounts of a kind, which are shared with the ledger.
func openLedger(b Bank, kind int) (ledger, map[int]int, bool) {
	pick, ok := kindAmounts(kind)
	if !ok || !BankOk(b) {
		return ledger{}, nil, false
	}
	l := ledger{own: amountMap(b.Own), notes: amountMap(b.Notes), locked: b.Locked}
	return l, pick(l), true
}

func hasUser(amounts map[int]int, user int) bool {
	_, ok := amounts[user]
	return ok
}

func canTake(amounts map[int]int, user int, sum int) bool {
	return hasUser(amounts, user) && sum >= 0 && sum <= amounts[user]
}

// BankNew is a bank at the beginning.
func BankNew() Bank {
	own := make([]int, UserMax)
	for i := range own {
		own[i] = BankStart
	}
	return Bank{Own: own, Notes: make([]int, UserMax)}
}

// BankOk says whether a bank is ok.
func BankOk(b Bank) bool {
	if !amountsOk(b.Own) || !amountsOk(b.Notes) || b.Locked < 0 {
		return false
	}
	// Locked has no upper bound of its own: adding it could overflow, subtracting here cannot.
	return b.Locked == bankSupply-amountSum(b.Own) && amountSum(b.Notes) <= bankSupply
}

// BankMove moves coins from one user to another one.
func BankMove(b Bank, kind int, from int, to int, sum int) (Bank, bool) {
	l, amounts, ok := openLedger(b, kind)
	if !ok || !canTake(amounts, from, sum) || !hasUser(amounts, to) {
		return Bank{}, false
	}
	amounts[from] -= sum
	amounts[to] += sum
	return l.bank(), true
}

// BankAway takes coins away from a user: own ones are locked, notes are gone.
func BankAway(b Bank, kind int, from int, sum int) (Bank, bool) {
	l, amounts, ok := openLedger(b, kind)
	if !ok || !canTake(amounts, from, sum) {
		return Bank{}, false
	}
	amounts[from] -= sum
	if kind == CoinOwn {
		l.locked += sum
	}
	return l.bank(), true
}

// BankBack gives a user coins: own ones out of those that are locked, notes anew.
func BankBack(b Bank, kind int, to int, sum int) (Bank, bool) {
	l, amounts, ok := openLedger(b, kind)
	if !ok || !hasUser(amounts, to) || sum < 0 || sum > l.room(kind) {
		return Bank{}, false
	}
	amounts[to] += sum
	if kind == CoinOwn {
		l.locked -= sum
	}
	return l.bank(), true
}

// BankAll is how many own coins there are, with those that are locked, and how many notes; -1 and -1, if the bank is not ok.
func BankAll(b Bank) (int, int) {
	if !BankOk(b) {
		return -1, -1
	}
	return amountSum(b.Own) + b.Locked, amountSum(b.Notes)
}
