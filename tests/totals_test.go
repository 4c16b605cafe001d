package tests

import (
	"math"
	"math/big"
	"slices"
	"testing"

	"loop.example/g00110/impl"
)

// wantTotals asks each account in turn, and adds up by numbers without an end.
func wantTotals(b impl.Books, instr int) (int, int, bool) {
	if !booksRight(b) || kindIn(b.Instrs, instr) == 0 {
		return 0, 0, false
	}
	have, lack := new(big.Int), new(big.Int)
	for _, a := range b.Accounts {
		amount := bigOf(amountIn(b.Bals, a.No, instr))
		if a.Kind == impl.Holder {
			have.Add(have, amount)
		} else {
			lack.Sub(lack, amount)
		}
	}
	if !bigIsAmount(have) || !bigIsAmount(lack) {
		return 0, 0, false
	}
	return int(have.Int64()), int(lack.Int64()), true
}

// checkTotals wants an answer; where there is one, holders have just what the others lack.
func checkTotals(t *testing.T, b impl.Books, instr int, wantHave int, wantLack int, wantOk bool) {
	t.Helper()
	have, lack, ok := impl.Totals(b, instr)
	if have != wantHave || lack != wantLack || ok != wantOk {
		t.Errorf("Totals(%v, %d) = %d, %d, %v; want %d, %d, %v", b, instr, have, lack, ok, wantHave, wantLack, wantOk)
	}
	if have != lack {
		t.Errorf("Totals(%v, %d) = %d, %d: holders do not have what the others lack", b, instr, have, lack)
	}
	_, _, all, held := impl.Held(b, instr)
	if kindIn(b.Instrs, instr) != 0 && (all != have || held != ok) {
		t.Errorf("Totals(%v, %d) = %d, %v; what is held is %d, %v", b, instr, have, ok, all, held)
	}
}

func checkBoth(t *testing.T, b impl.Books, instr int, want int) {
	t.Helper()
	checkTotals(t, b, instr, want, want, true)
	checkSumOfStatements(t, b, instr, want)
}

func checkNoTotals(t *testing.T, b impl.Books, instr int) {
	t.Helper()
	checkTotals(t, b, instr, 0, 0, false)
}

func checkTotalsByWords(t *testing.T, b impl.Books, instr int) {
	t.Helper()
	have, lack, ok := wantTotals(b, instr)
	checkTotals(t, b, instr, have, lack, ok)
	if ok {
		checkSumOfStatements(t, b, instr, have)
	}
}

// checkSumOfStatements adds up what the statements of all holders say of an instrument.
func checkSumOfStatements(t *testing.T, b impl.Books, instr int, want int) {
	t.Helper()
	have := 0
	for _, a := range b.Accounts {
		lines, _ := impl.Statement(b, a.No)
		for _, l := range lines {
			if a.Kind == impl.Holder && l.Instr == instr {
				have += l.Qty
			}
		}
	}
	if have != want {
		t.Errorf("Totals(%v, %d) = %d; the statements of all holders say %d", b, instr, want, have)
	}
}

func TestP19Totals(t *testing.T) {
	b := someBooks()
	// A Cash that two holders have, of which a desk has some; a Cash that a desk lacks; two Papers.
	checkBoth(t, b, 5, 450)
	checkBoth(t, b, 6, 30)
	checkBoth(t, b, 7, 25)
	checkBoth(t, b, 9, 4)
	for _, instr := range append(wrongNumbers(), 1, 2, 3, 4, 8, 10, 999, 1000, math.MaxInt-1) {
		checkNoTotals(t, b, instr)
		checkNoTotals(t, impl.BooksNew(), instr)
	}
	// Of an instrument that is there nobody has any.
	b.Bals, b.Lots = nil, nil
	for _, i := range b.Instrs {
		checkBoth(t, b, i.No, 0)
	}
	for instr := 1; instr <= impl.MaxInstrs; instr++ {
		checkBoth(t, fullBooks(), instr, 190)
		checkNoTotals(t, impl.BooksNew(), instr)
	}
}

// totalBooks have issuers 1 and 8, holders 2, 3 and 6, dealer 4 and rounder 5, and these amounts of cash 6.
func totalBooks(bals ...[3]int) impl.Books {
	b := someBooks()
	b.Bals, b.Lots = rows(bals).bals(), nil
	return b
}

func TestP19TotalsOfEachKind(t *testing.T) {
	for _, c := range []struct {
		bals rows
		want int
	}{
		// An Issuer, a Dealer, a Rounder, each by itself, lacks what one holder has, or several.
		{rows{{1, 6, -9}, {2, 6, 9}}, 9},
		{rows{{2, 6, 9}, {4, 6, -9}}, 9},
		{rows{{3, 6, 9}, {5, 6, -9}}, 9},
		{rows{{1, 6, -9}, {2, 6, 2}, {3, 6, 3}, {6, 6, 4}}, 9},
		{rows{{2, 6, 2}, {3, 6, 3}, {4, 6, -9}, {6, 6, 4}}, 9},
		{rows{{2, 6, 2}, {3, 6, 3}, {5, 6, -9}, {6, 6, 4}}, 9},
		{rows{{6, 6, 9}, {8, 6, -9}}, 9},
		// Two or three of them lack it together, or one has what the others lack beside.
		{rows{{1, 6, -9}, {2, 6, 10}, {8, 6, -1}}, 10},
		{rows{{1, 6, -9}, {2, 6, 12}, {4, 6, -1}, {5, 6, -2}}, 12},
		{rows{{1, 6, -9}, {2, 6, 6}, {4, 6, 1}, {5, 6, 2}}, 6},
		{rows{{1, 6, 9}, {2, 6, 6}, {4, 6, -20}, {5, 6, 5}}, 6},
		{rows{{1, 6, 9}, {2, 6, 5}, {3, 6, 1}, {4, 6, 20}, {5, 6, -35}}, 6},
		{rows{{1, 6, 1}, {2, 6, 5}, {3, 6, 1}, {4, 6, 20}, {5, 6, 30}, {6, 6, 3}, {8, 6, -60}}, 9},
		// They have and lack it among themselves, and holders have none of it.
		{rows{{1, 6, -9}, {8, 6, 9}}, 0},
		{rows{{4, 6, 9}, {5, 6, -9}}, 0},
		{rows{{1, 6, 4}, {4, 6, -9}, {5, 6, 5}}, 0},
		{rows{{1, 6, -4}, {4, 6, 9}, {5, 6, -6}, {8, 6, 1}}, 0},
		// Of another instrument there is some, and nothing of this one.
		{rows{{1, 5, -4}, {2, 5, 4}, {4, 7, -1}, {5, 7, 1}}, 0},
	} {
		b := totalBooks(c.bals...)
		checkBoth(t, b, 6, c.want)
		// What there is of other instruments does not count.
		for _, bal := range []rows{{{1, 5, -8}, {2, 5, 8}}, {{4, 7, 8}, {5, 7, -8}}, {{5, 9, top}, {8, 9, -top}}} {
			mixed := withBal(withBal(b, bal[0][0], bal[0][1], bal[0][2], nil), bal[1][0], bal[1][1], bal[1][2], nil)
			checkBoth(t, mixed, 6, c.want)
		}
	}
}

// Just an amount together, one more, and as much as can be; among the others what all come to counts, and not what some of them come to.
func TestP19TotalsThatAreTooLarge(t *testing.T) {
	for _, amounts := range [][]int{{top}, {top - 1, 1}, {1, top - 1}, {top - 2, 1, 1}, {0, top, 0}, {top / 2, top / 2}} {
		checkBoth(t, heldBooks(amounts...), 7, top)
		checkBoth(t, heldBooks(amounts...), 6, 0)
	}
	for _, amounts := range [][]int{{top, 1}, {1, top}, {top - 1, 1, 1}, {top, 0, 1}, {top/2 + 1, top / 2}, {top, top}, repeated(10, top), repeated(10, top/10+1)} {
		checkNoTotals(t, heldBooks(amounts...), 7)
		checkBoth(t, heldBooks(amounts...), 6, 0)
	}
	checkNoTotals(t, farBooks(), 1)
	checkNoTotals(t, farBooks(), 1000)
	checkNoTotals(t, farBooks(), 2)
	for _, c := range []struct {
		bals rows
		want int
	}{
		{rows{{1, 6, -top}, {2, 6, top}}, top},
		{rows{{1, 6, -top}, {2, 6, top}, {4, 6, -top}, {5, 6, top}}, top},
		{rows{{1, 6, top}, {2, 6, top}, {4, 6, -top}, {5, 6, -top}}, top},
		{rows{{1, 6, -top}, {4, 6, -top}, {5, 6, top}, {8, 6, top}}, 0},
		{rows{{1, 6, top}, {4, 6, top}, {5, 6, -top}, {8, 6, -top}}, 0},
		{rows{{1, 6, -top}, {2, 6, 1}, {4, 6, -top}, {5, 6, top - 1}, {8, 6, top}}, 1},
		{rows{{1, 6, -top}, {2, 6, top - 1}, {3, 6, 1}, {4, 6, -top}, {5, 6, top}}, top},
	} {
		checkBoth(t, totalBooks(c.bals...), 6, c.want)
	}
	for _, bals := range []rows{
		{{1, 6, -top}, {2, 6, top}, {3, 6, 1}, {4, 6, -1}},
		{{1, 6, -top}, {2, 6, 1}, {3, 6, top}, {5, 6, -1}},
		{{1, 6, -top}, {2, 6, top}, {3, 6, top}, {4, 6, -top}},
		{{1, 6, -top}, {2, 6, top}, {3, 6, top}, {4, 6, -top}, {5, 6, -top}, {6, 6, top}},
		{{1, 6, top}, {2, 6, 2}, {3, 6, top - 1}, {4, 6, -top}, {5, 6, -top}, {8, 6, -1}},
	} {
		b := totalBooks(bals...)
		checkNoTotals(t, b, 6)
		checkBoth(t, b, 5, 0)
	}
}

func TestP19TotalsOfWrongBooks(t *testing.T) {
	for _, b := range slices.Concat(wrongBooks(), wrongBooksByHand()) {
		for _, instr := range []int{-1, 1, 5, 6, 7, 8, 9} {
			if have, lack, ok := impl.Totals(b, instr); have != 0 || lack != 0 || ok {
				t.Errorf("Totals(%v, %d) = %d, %d, %v", b, instr, have, lack, ok)
			}
		}
	}
}

func TestP19TotalsByTheWords(t *testing.T) {
	for _, b := range slices.Concat(rightBooks(), oddBooks(), wrongBooks()[:40], booksOfWrongBals(), booksOfMisfitLots()) {
		for _, instr := range []int{math.MinInt, -1, 0, 1, 2, 3, 4, 5, 6, 7, 8, 9, 10, 999, 1000, 1001, top, math.MaxInt} {
			checkTotalsByWords(t, b, instr)
		}
	}
}
