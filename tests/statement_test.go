package tests

import (
	"math"
	"slices"
	"testing"

	"loop.example/g00110/impl"
)

// lineRows are lines in short: instrument, quantity, cost, mean, what is left over.
type lineRows [][5]int

func (r lineRows) lines() []impl.Line {
	list := []impl.Line{}
	for _, row := range r {
		list = append(list, impl.Line{Instr: row[0], Qty: row[1], Cost: row[2], Mean: row[3], Left: row[4]})
	}
	return list
}

// wantStatement asks for each number that an instrument can have.
func wantStatement(b impl.Books, account int) ([]impl.Line, bool) {
	if !booksRight(b) || kindIn(b.Accounts, account) == 0 {
		return nil, false
	}
	lines := []impl.Line{}
	for instr := 1; instr <= 1000; instr++ {
		l := impl.Line{Instr: instr, Qty: amountIn(b.Bals, account, instr)}
		if l.Qty == 0 {
			continue
		}
		if kindIn(b.Instrs, instr) == impl.Paper {
			_, l.Cost = totals(ownLots(b.Lots, account, instr))
			// Neither is below 0, but where there are no lots, and so no cost.
			l.Mean, l.Left = l.Cost/l.Qty, l.Cost%l.Qty
		}
		lines = append(lines, l)
	}
	return lines, true
}

func checkStatement(t *testing.T, b impl.Books, account int, want []impl.Line, wantOk bool) {
	t.Helper()
	lines, ok := impl.Statement(b, account)
	if !slices.Equal(lines, want) || ok != wantOk {
		t.Errorf("Statement(%v, %d) = %v, %v; want %v, %v", b, account, lines, ok, want, wantOk)
	}
}

func checkLines(t *testing.T, b impl.Books, account int, want lineRows) {
	t.Helper()
	checkStatement(t, b, account, want.lines(), true)
	checkAllThatItHas(t, b, account)
}

func checkNoStatement(t *testing.T, b impl.Books, account int) {
	t.Helper()
	checkStatement(t, b, account, nil, false)
}

func checkStatementByWords(t *testing.T, b impl.Books, account int) {
	t.Helper()
	want, ok := wantStatement(b, account)
	checkStatement(t, b, account, want, ok)
	if ok {
		checkAllThatItHas(t, b, account)
	}
}

// checkAllThatItHas is the promise: the lines are all balances of the account and no other ones, and cost what its lots cost.
func checkAllThatItHas(t *testing.T, b impl.Books, account int) {
	t.Helper()
	lines, _ := impl.Statement(b, account)
	bals := []impl.Bal{}
	for i, l := range lines {
		bals = append(bals, impl.Bal{Account: account, Instr: l.Instr, Amount: l.Qty})
		if i > 0 && l.Instr <= lines[i-1].Instr || l.Qty == 0 {
			t.Errorf("Statement(%v, %d): line %d is out of turn or of nothing: %v", b, account, i, lines)
		}
		checkLine(t, b, account, l)
	}
	own := slices.DeleteFunc(slices.Clone(b.Bals), func(bal impl.Bal) bool { return bal.Account != account })
	if !slices.Equal(bals, own) {
		t.Errorf("Statement(%v, %d) = %v; its balances are %v", b, account, lines, own)
	}
}

// checkLine: of a Paper that a Holder has mean and left make the cost again; all else costs nothing.
func checkLine(t *testing.T, b impl.Books, account int, l impl.Line) {
	t.Helper()
	if kindIn(b.Accounts, account) != impl.Holder || kindIn(b.Instrs, l.Instr) != impl.Paper {
		if l.Cost != 0 || l.Mean != 0 || l.Left != 0 {
			t.Errorf("Statement(%v, %d): %v has a cost", b, account, l)
		}
		return
	}
	if l.Cost != impl.LotsCost(b.Lots, account, l.Instr) || l.Qty != impl.LotsQty(b.Lots, account, l.Instr) {
		t.Errorf("Statement(%v, %d): %v is not what the lots are", b, account, l)
	}
	if l.Mean*l.Qty+l.Left != l.Cost || l.Left < 0 || l.Left >= l.Qty {
		t.Errorf("Statement(%v, %d): %v does not make its cost", b, account, l)
	}
}

func TestP19StatementOfEachKind(t *testing.T) {
	b := someBooks()
	// Holders: one with a Cash and two Papers, one of which costs nothing; one with some that leaves nothing over; one with a Cash alone.
	checkLines(t, b, 2, lineRows{{5, 300, 0, 0, 0}, {7, 20, 171, 8, 11}, {9, 4, 0, 0, 0}})
	checkLines(t, b, 3, lineRows{{5, 150, 0, 0, 0}, {7, 5, 60, 12, 0}})
	checkLines(t, b, 6, lineRows{{6, 30, 0, 0, 0}})
	// Issuers: one that lacks a Cash and two Papers, and one that has nothing.
	checkLines(t, b, 1, lineRows{{5, -500, 0, 0, 0}, {7, -27, 0, 0, 0}, {9, -4, 0, 0, 0}})
	checkLines(t, b, 8, nil)
	// A Dealer that has a Cash and lacks another one, and has a Paper without any lots; a Rounder that has nothing.
	checkLines(t, b, 4, lineRows{{5, 50, 0, 0, 0}, {6, -30, 0, 0, 0}, {7, 2, 0, 0, 0}})
	checkLines(t, b, 5, nil)
	for _, no := range append(wrongNumbers(), 7, 9, 10, 999, 1000) {
		checkNoStatement(t, b, no)
		checkNoStatement(t, impl.BooksNew(), no)
	}
	for no := 1; no <= 9; no++ {
		checkNoStatement(t, impl.BooksNew(), no)
	}
}

// Whoever is no Holder has or lacks some of each, and none of it costs anything.
func TestP19StatementOfWhoIsNoHolder(t *testing.T) {
	bals := rows{{1, 5, 7}, {1, 7, -12}, {4, 5, -top}, {4, 6, 1}, {4, 7, 20}, {4, 9, -1}, {5, 5, -7}, {5, 7, -8}, {8, 5, top}, {8, 6, -1}, {8, 9, 1}}
	for _, kinds := range [][4]int{{2, 3, 4, 2}, {3, 4, 2, 3}, {4, 2, 3, 4}} {
		b := impl.Books{Accounts: chartOf(1, kinds[0], 4, kinds[1], 5, kinds[2], 8, kinds[3]), Instrs: someBooks().Instrs, Bals: bals.bals()}
		checkLines(t, b, 1, lineRows{{5, 7, 0, 0, 0}, {7, -12, 0, 0, 0}})
		checkLines(t, b, 4, lineRows{{5, -top, 0, 0, 0}, {6, 1, 0, 0, 0}, {7, 20, 0, 0, 0}, {9, -1, 0, 0, 0}})
		checkLines(t, b, 5, lineRows{{5, -7, 0, 0, 0}, {7, -8, 0, 0, 0}})
		checkLines(t, b, 8, lineRows{{5, top, 0, 0, 0}, {6, -1, 0, 0, 0}, {9, 1, 0, 0, 0}})
	}
}

// lotBooks have a holder 2 with these lots of paper 7, which issuer 1 lacks, and with 9 of cash 5.
func lotBooks(own lotRows) impl.Books {
	qty, _ := totals(own.lots())
	b := impl.Books{Accounts: chartOf(1, impl.Issuer, 2, impl.Holder, 3, impl.Holder), Instrs: instrsOf(5, impl.Cash, 7, impl.Paper), Lot: lastNo, Lots: own.lots()}
	b.Bals = rows{{1, 5, -9}, {1, 7, -qty}, {2, 5, 9}, {2, 7, qty}}.bals()
	return b
}

func TestP19MeanAndLeft(t *testing.T) {
	for _, c := range []struct {
		own  lotRows
		want [5]int
	}{
		// One piece: the mean is all that it cost.
		{lotRows{{2, 7, 1, 1, 0}}, [5]int{7, 1, 0, 0, 0}},
		{lotRows{{2, 7, 1, 1, 1}}, [5]int{7, 1, 1, 1, 0}},
		{lotRows{{2, 7, 1, 1, 77}}, [5]int{7, 1, 77, 77, 0}},
		{lotRows{{2, 7, 1, 1, top}}, [5]int{7, 1, top, top, 0}},
		// One lot: nothing is left over, one, and one less than the pieces.
		{lotRows{{2, 7, 1, 8, 160}}, [5]int{7, 8, 160, 20, 0}},
		{lotRows{{2, 7, 1, 8, 161}}, [5]int{7, 8, 161, 20, 1}},
		{lotRows{{2, 7, 1, 8, 167}}, [5]int{7, 8, 167, 20, 7}},
		{lotRows{{2, 7, 1, 8, 168}}, [5]int{7, 8, 168, 21, 0}},
		// Fewer than the pieces, as many, and nothing.
		{lotRows{{2, 7, 1, 8, 7}}, [5]int{7, 8, 7, 0, 7}},
		{lotRows{{2, 7, 1, 8, 1}}, [5]int{7, 8, 1, 0, 1}},
		{lotRows{{2, 7, 1, 8, 0}}, [5]int{7, 8, 0, 0, 0}},
		{lotRows{{2, 7, 1, 8, 8}}, [5]int{7, 8, 8, 1, 0}},
		{lotRows{{2, 7, 1, 8, 9}}, [5]int{7, 8, 9, 1, 1}},
		// Several lots count as one: their means and what is left over of each do not add up.
		{lotRows{{2, 7, 1, 4, 7}, {2, 7, 2, 4, 7}}, [5]int{7, 8, 14, 1, 6}},
		{lotRows{{2, 7, 1, 3, 5}, {2, 7, 2, 3, 5}, {2, 7, 9, 3, 8}}, [5]int{7, 9, 18, 2, 0}},
		{lotRows{{2, 7, 1, 10, 101}, {2, 7, 4, 3, 50}, {2, 7, 9, 7, 20}}, [5]int{7, 20, 171, 8, 11}},
		{lotRows{{2, 7, 1, 1, 0}, {2, 7, 2, 2, 11}, {2, 7, 3, 3, 0}}, [5]int{7, 6, 11, 1, 5}},
		{lotRows{{2, 7, 1, 1, 0}, {2, 7, lastNo, 1, 0}}, [5]int{7, 2, 0, 0, 0}},
		// As many pieces and as much cost as can be.
		{lotRows{{2, 7, 1, 2, top}}, [5]int{7, 2, top, top / 2, 0}},
		{lotRows{{2, 7, 1, 3, top}}, [5]int{7, 3, top, top / 3, 1}},
		{lotRows{{2, 7, 1, top, 0}}, [5]int{7, top, 0, 0, 0}},
		{lotRows{{2, 7, 1, top, top - 1}}, [5]int{7, top, top - 1, 0, top - 1}},
		{lotRows{{2, 7, 1, top, top}}, [5]int{7, top, top, 1, 0}},
		{lotRows{{2, 7, 1, top - 1, top}}, [5]int{7, top - 1, top, 1, 1}},
		{lotRows{{2, 7, 1, top / 2, top - 1}}, [5]int{7, top / 2, top - 1, 1, top/2 - 1}},
		{lotRows{{2, 7, 1, top - 1, top - 1}, {2, 7, 2, 1, 1}}, [5]int{7, top, top, 1, 0}},
		{lotRows{{2, 7, 1, 1, top - 7}, {2, 7, 2, 999999, 7}}, [5]int{7, 1000000, top, top / 1000000, 0}},
	} {
		b := lotBooks(c.own)
		checkLines(t, b, 2, lineRows{{5, 9, 0, 0, 0}, c.want})
		checkLines(t, b, 1, lineRows{{5, -9, 0, 0, 0}, {7, -c.want[1], 0, 0, 0}})
		checkLines(t, b, 3, nil)
	}
}

func TestP19SmallMeansByTheWords(t *testing.T) {
	for qty := 1; qty <= 12; qty++ {
		for cost := range 40 {
			checkStatementByWords(t, lotBooks(lotRows{{2, 7, 1, qty, cost}}), 2)
			checkStatementByWords(t, lotBooks(lotRows{{2, 7, 1, 1, cost / 2}, {2, 7, 5, qty, cost}}), 2)
		}
	}
}

func TestP19StatementOfManyInstruments(t *testing.T) {
	b := fullBooks()
	for no := 1; no < impl.MaxAccounts; no++ {
		want := lineRows{}
		for instr := 1; instr <= 6; instr++ {
			want = append(want, [5]int{instr, 10, no, no / 10, no % 10})
		}
		checkLines(t, b, no, append(want, [5]int{7, 10, 0, 0, 0}, [5]int{8, 10, 0, 0, 0}))
	}
	want := lineRows{}
	for instr := 1; instr <= impl.MaxInstrs; instr++ {
		want = append(want, [5]int{instr, -190, 0, 0, 0})
	}
	checkLines(t, b, 20, want)
	far := farBooks()
	checkLines(t, far, 1, lineRows{{1, top, top, 1, 0}, {1000, 1, 0, 0, 0}})
	checkLines(t, far, 4, lineRows{{1, top - 1, top - 1, 1, 0}})
	checkLines(t, far, 1000, lineRows{{1, 1, top, top, 0}, {1000, top, 0, 0, 0}})
	checkLines(t, far, 2, lineRows{{1, -top, 0, 0, 0}, {1000, -top, 0, 0, 0}})
}

func TestP19StatementOfWrongBooks(t *testing.T) {
	for _, b := range slices.Concat(wrongBooks(), wrongBooksByHand()) {
		for _, no := range []int{-1, 1, 2, 3, 4, 6, 1000} {
			checkNoStatement(t, b, no)
		}
	}
}

func TestP19StatementByTheWords(t *testing.T) {
	for _, b := range slices.Concat(rightBooks(), oddBooks(), wrongBooks()[:40], booksOfWrongBals(), booksOfMisfitLots()) {
		for _, no := range []int{math.MinInt, -1, 0, 1, 2, 3, 4, 5, 6, 7, 8, 19, 20, 21, 999, 1000, 1001, top, math.MaxInt} {
			checkStatementByWords(t, b, no)
		}
	}
}
