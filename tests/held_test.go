package tests

import (
	"math"
	"math/big"
	"slices"
	"testing"

	"loop.example/g00110/impl"
)

// wantHeld asks each account in turn, and adds up by numbers without an end.
func wantHeld(b impl.Books, instr int) ([]int, []int, int, bool) {
	if !booksRight(b) {
		return nil, nil, 0, false
	}
	accounts, amounts, sum := []int{}, []int{}, new(big.Int)
	for no := 1; no <= 1000; no++ {
		if kindIn(b.Accounts, no) != impl.Holder {
			continue
		}
		if amount := amountIn(b.Bals, no, instr); amount > 0 {
			accounts, amounts = append(accounts, no), append(amounts, amount)
			sum.Add(sum, bigOf(amount))
		}
	}
	if !bigIsAmount(sum) {
		return nil, nil, 0, false
	}
	return accounts, amounts, int(sum.Int64()), true
}

func checkHeld(t *testing.T, b impl.Books, instr int, wantAccounts []int, wantAmounts []int, wantAll int, wantOk bool) {
	t.Helper()
	accounts, amounts, all, ok := impl.Held(b, instr)
	if !slices.Equal(accounts, wantAccounts) || !slices.Equal(amounts, wantAmounts) || all != wantAll || ok != wantOk {
		t.Errorf("Held(%v, %d) = %v, %v, %d, %v; want %v, %v, %d, %v", b, instr, accounts, amounts, all, ok, wantAccounts, wantAmounts, wantAll, wantOk)
	}
}

func checkNobody(t *testing.T, b impl.Books, instr int) {
	t.Helper()
	checkHeld(t, b, instr, nil, nil, 0, true)
}

func checkNotHeld(t *testing.T, b impl.Books, instr int) {
	t.Helper()
	checkHeld(t, b, instr, nil, nil, 0, false)
}

func checkHeldByWords(t *testing.T, b impl.Books, instr int) {
	t.Helper()
	accounts, amounts, all, ok := wantHeld(b, instr)
	checkHeld(t, b, instr, accounts, amounts, all, ok)
}

func TestP9Held(t *testing.T) {
	b := someBooks()
	// What the desk has of paper 7 does not count, nor what issuers lack.
	checkHeld(t, b, 7, []int{2, 3}, []int{20, 5}, 25, true)
	checkHeld(t, b, 9, []int{2}, []int{4}, 4, true)
	// Of a Cash, too; the desk has some of 5, and lacks some of 6.
	checkHeld(t, b, 5, []int{2, 3}, []int{300, 150}, 450, true)
	checkHeld(t, b, 6, []int{6}, []int{30}, 30, true)
	// An instrument that is not there, and numbers that none has.
	for _, instr := range append(wrongNumbers(), 1, 2, 8, 10, 999, 1000, math.MaxInt-1) {
		checkNobody(t, b, instr)
		checkNobody(t, impl.BooksNew(), instr)
	}
}

func TestP9HeldByNobody(t *testing.T) {
	b := someBooks()
	b.Trades = nil
	b.Bals, b.Lots = nil, nil
	for _, i := range b.Instrs {
		checkNobody(t, b, i.No)
	}
	// Issuers, a desk and a rounder have and lack some, whatever sign it has.
	for _, bals := range []rows{
		{{1, 7, 12}, {4, 7, -20}, {5, 7, 15}, {8, 7, -7}}, {{1, 7, -12}, {4, 7, 20}, {5, 7, -15}, {8, 7, 7}}, {{4, 7, 1}, {8, 7, -1}},
		{{1, 7, top}, {4, 7, top}, {5, 7, -top}, {8, 7, -top}},
	} {
		b.Bals = bals.bals()
		checkNobody(t, b, 7)
		checkNobody(t, b, 9)
		mixed := withBal(withBal(b, 6, 9, 3, lotRows{{6, 9, 5, 3, 1}}), 5, 9, -3, nil)
		checkNobody(t, mixed, 7)
		checkHeld(t, mixed, 9, []int{6}, []int{3}, 3, true)
	}
}

// heldBooks have holders 2, 4 and so on with so much of paper 7, in a lot each that cost ten times as much as its number; issuers 1, 3 and so on, the one ahead of each holder, lack it.
func heldBooks(amounts ...int) impl.Books {
	b := impl.Books{Instrs: instrsOf(5, impl.Cash, 6, impl.Paper, 7, impl.Paper), Lot: 500}
	for i, amount := range amounts {
		issuer, holder := 1+2*i, 2+2*i
		b.Accounts = append(b.Accounts, chartOf(issuer, impl.Issuer, holder, impl.Holder)...)
		b.Bals = balWith(balWith(b.Bals, issuer, 7, -amount), holder, 7, amount)
		if amount > 0 {
			b.Lots = append(b.Lots, impl.Lot{Account: holder, Instr: 7, No: 1 + i, Qty: amount, Cost: 10 * (1 + i)})
		}
	}
	return b
}

func TestP9HeldBySeveral(t *testing.T) {
	checkHeld(t, heldBooks(7), 7, []int{2}, []int{7}, 7, true)
	checkHeld(t, heldBooks(3, 3, 3), 7, []int{2, 4, 6}, []int{3, 3, 3}, 9, true)
	checkHeld(t, heldBooks(3, 9, 1, 5), 7, []int{2, 4, 6, 8}, []int{3, 9, 1, 5}, 18, true)
	// Who has nothing is left out, at the front, amid the others and at the end.
	checkHeld(t, heldBooks(0, 9, 0, 0, 5, 0), 7, []int{4, 10}, []int{9, 5}, 14, true)
	checkNobody(t, heldBooks(0, 0), 7)
	checkNobody(t, heldBooks(4, 5), 6)
	checkNobody(t, heldBooks(4, 5), 5)
	all := repeated(19, 10)
	holders := []int{}
	for no := 1; no < 20; no++ {
		holders = append(holders, no)
	}
	for instr := 1; instr <= 8; instr++ {
		checkHeld(t, fullBooks(), instr, holders, all, 190, true)
	}
}

// Just an amount together, one more, and as much as can be.
func TestP9HeldThatIsTooLarge(t *testing.T) {
	for _, amounts := range [][]int{{top}, {top - 1, 1}, {1, top - 1}, {top - 2, 1, 1}, {0, top, 0}, {top / 2, top / 2}, {333333333333333, 333333333333333, 333333333333334}} {
		b := heldBooks(amounts...)
		checkHeldByWords(t, b, 7)
		if _, _, all, ok := impl.Held(b, 7); all != top || !ok {
			t.Errorf("Held(%v) = %d, %v", amounts, all, ok)
		}
	}
	for _, amounts := range [][]int{{top, 1}, {1, top}, {top - 1, 1, 1}, {top, 0, 1}, {top/2 + 1, top / 2}, {top, top}, repeated(10, top), repeated(10, top/10+1)} {
		checkNotHeld(t, heldBooks(amounts...), 7)
		// What is held of another one is told.
		checkNobody(t, heldBooks(amounts...), 6)
	}
	checkNotHeld(t, farBooks(), 1)
	checkNotHeld(t, farBooks(), 1000)
	checkNobody(t, farBooks(), 2)
}

func TestP9HeldOfWrongBooks(t *testing.T) {
	for _, b := range wrongBooks() {
		for _, instr := range []int{-1, 1, 5, 7, 8, 9} {
			checkNotHeld(t, b, instr)
		}
	}
}

func TestP9HeldByTheWords(t *testing.T) {
	for _, b := range slices.Concat(rightBooks(), wrongBooks()[:60], booksOfWrongBals(), booksOfMisfitLots(), booksOfMisfitTrades()[:8]) {
		for instr := -1; instr <= 11; instr++ {
			checkHeldByWords(t, b, instr)
		}
		for _, instr := range []int{999, 1000, 1001, top, math.MinInt, math.MaxInt} {
			checkHeldByWords(t, b, instr)
		}
	}
}

func TestP22HeldWritesIntoNothing(t *testing.T) {
	for _, given := range slices.Concat(rightBooks(), wrongBooks(), []impl.Books{heldBooks(3, 9, 1, 5), heldBooks(top, 1), heldBooks(1, 2, 3, top)}) {
		for _, instr := range []int{1, 5, 7, 8} {
			r := roomyBooks(given)
			accounts, amounts, all, ok := impl.Held(r.books, instr)
			if !r.kept(given) {
				t.Errorf("Held(%v, %d) writes: %v", given, instr, r)
			}
			wantAccounts, wantAmounts := slices.Clone(accounts), slices.Clone(amounts)
			// Whoever writes on into the books, or into another answer, turns no answer, and the other way round.
			otherAccounts, otherAmounts, _, _ := impl.Held(r.books, instr)
			fill(otherAccounts[:cap(otherAccounts)], -6)
			fill(otherAmounts[:cap(otherAmounts)], -6)
			fillBooks(r.books, -5)
			if !slices.Equal(accounts, wantAccounts) || !slices.Equal(amounts, wantAmounts) {
				t.Errorf("Held(%v, %d): the answer beside %d, %v shares memory", given, instr, all, ok)
			}
			// Neither list is turned by the other one.
			fill(accounts[:cap(accounts)], -7)
			if !slices.Equal(amounts, wantAmounts) || !r.allAre(-5) {
				t.Errorf("Held(%v, %d): the accounts beside %d, %v share memory", given, instr, all, ok)
			}
			fill(amounts[:cap(amounts)], -8)
			if !allAre(accounts[:cap(accounts)], -7) || !r.allAre(-5) {
				t.Errorf("Held(%v, %d): the amounts beside %d, %v share memory", given, instr, all, ok)
			}
			checkHeldByWords(t, given, instr)
		}
	}
}
