package tests

import (
	"math"
	"slices"
	"testing"

	"loop.example/g00110/impl"
)

// sale is what GainIf is asked for beside the books.
type sale struct {
	account int
	instr   int
	qty     int
	price   int
	way     int
}

func (s sale) gain(b impl.Books) (int, bool) {
	return impl.GainIf(b, s.account, s.instr, s.qty, s.price, s.way)
}

func (s sale) want(b impl.Books) (int, bool) {
	if !booksRight(b) || s.price < 0 || s.price > top {
		return 0, false
	}
	_, cost, code := wantTake(b.Lots, s.account, s.instr, s.qty, s.way)
	if code != impl.LotDone {
		return 0, false
	}
	return s.price - cost, true
}

// traded is what a trade of the same pieces gains: its buyer 999 has just the price, of a cash of its own.
func (s sale) traded(b impl.Books) (int, int) {
	b, _ = impl.BookAccount(b, 998, impl.Issuer)
	b, _ = impl.BookAccount(b, 999, impl.Holder)
	b, _ = impl.BookInstr(b, 999, impl.Cash)
	if s.price > 0 {
		b, _ = impl.BookIssue(b, 998, 999, 999, s.price, 0)
	}
	b, code := impl.BookTrade(b, 999, 999, s.account, s.instr, s.qty, 999, s.price)
	if code != impl.BkDone {
		return 0, code
	}
	_, gain, code := impl.BookSettle(b, 999, s.way)
	return gain, code
}

// roomToTrade says whether books have room for what such a trade puts into them.
func roomToTrade(b impl.Books) bool {
	return len(b.Accounts) <= 18 && len(b.Instrs) < 8 && len(b.Bals) < 156 && len(b.Trades) < 30 && len(b.Lots) < 120 && b.Lot < lastNo
}

func checkGain(t *testing.T, b impl.Books, s sale, want int, wantOk bool) {
	t.Helper()
	gain, ok := s.gain(b)
	if gain != want || ok != wantOk {
		t.Errorf("GainIf(%v, %v) = %d, %v; want %d, %v", b, s, gain, ok, want, wantOk)
	}
	// The promise: it is what a trade gains, and where there is none no trade is settled.
	got, code := s.traded(b)
	if code == impl.BkDone && (!ok || got != gain) || code != impl.BkDone && ok && roomToTrade(b) {
		t.Errorf("GainIf(%v, %v) = %d, %v; a trade gains %d, %d", b, s, gain, ok, got, code)
	}
}

func checkNoGain(t *testing.T, b impl.Books, s sale) {
	t.Helper()
	checkGain(t, b, s, 0, false)
}

func checkGainByWords(t *testing.T, b impl.Books, s sale) {
	t.Helper()
	want, ok := s.want(b)
	checkGain(t, b, s, want, ok)
}

// Whole lots and parts of them, from either end and as one, at a gain, at a loss and at neither.
func TestP19GainByEachWay(t *testing.T) {
	b := someBooks()
	for _, c := range sevensTaken() {
		for _, price := range []int{0, 1, c.cost - 1, c.cost, c.cost + 1, 1149, top - 1, top} {
			checkGain(t, b, sale{2, 7, c.qty, price, c.way}, price-c.cost, true)
		}
		// What it would gain is told whatever the last lot's number is, and though lots are all that there can be.
		checkGain(t, lotted(b, lastNo), sale{2, 7, c.qty, 200, c.way}, 200-c.cost, true)
	}
	for _, way := range threeWays() {
		// One lot that costs nothing, one that is sold in part.
		checkGain(t, b, sale{2, 9, 4, 31, way}, 31, true)
		checkGain(t, b, sale{2, 9, 1, 0, way}, 0, true)
		checkGain(t, b, sale{3, 7, 5, 60, way}, 0, true)
		checkGain(t, b, sale{3, 7, 4, 60, way}, 12, true)
		checkGain(t, b, sale{3, 7, 1, 0, way}, -12, true)
		full := fullBooks()
		checkGain(t, full, sale{19, 6, 10, 12, way}, -7, true)
		checkGain(t, full, sale{19, 6, 9, 12, way}, -5, true)
	}
}

// What a part costs is rounded down, of each lot by itself or of all lots as one.
func TestP19GainOfParts(t *testing.T) {
	b := lotBooks(lotRows{{2, 7, 1, 3, 10}, {2, 7, 2, 3, 20}, {2, 7, 3, 3, 40}})
	for _, c := range [][4]int{
		{1, 3, 13, 7}, {2, 6, 26, 15}, {3, 10, 40, 23}, {4, 16, 46, 31}, {5, 23, 53, 38}, {6, 30, 60, 46}, {7, 43, 63, 54}, {8, 56, 66, 62}, {9, 70, 70, 70},
	} {
		for i, way := range threeWays() {
			checkGain(t, b, sale{2, 7, c[0], 50, way}, 50-c[1+i], true)
		}
	}
}

// No pieces, all pieces that there are, and one more.
func TestP19GainOfQuantities(t *testing.T) {
	b := someBooks()
	for _, way := range threeWays() {
		checkGain(t, b, sale{2, 7, 20, 200, way}, 29, true)
		checkGain(t, b, sale{2, 9, 4, 200, way}, 200, true)
		checkGain(t, b, sale{3, 7, 5, 200, way}, 140, true)
		for _, qty := range append(wrongAmounts(), 0, -1, -20, -top, 21, 22, 25, top) {
			checkNoGain(t, b, sale{2, 7, qty, 200, way})
			checkNoGain(t, b, sale{3, 7, qty, 0, way})
		}
		checkNoGain(t, b, sale{2, 9, 5, 200, way})
		checkNoGain(t, b, sale{3, 7, 6, 200, way})
		checkNoGain(t, impl.BooksNew(), sale{2, 7, 1, 200, way})
	}
}

// LotTake of right lots has two codes: it is bad, or short.
func TestP19GainRefusedByEachCode(t *testing.T) {
	b := someBooks()
	for _, c := range []struct {
		s    sale
		code int
	}{
		{sale{2, 7, 0, 200, impl.First}, impl.LotBad}, {sale{2, 7, -1, 200, impl.Last}, impl.LotBad}, {sale{2, 7, top + 1, 200, impl.Mean}, impl.LotBad},
		{sale{2, 7, 20, 200, 0}, impl.LotBad}, {sale{2, 7, 20, 200, 4}, impl.LotBad}, {sale{7, 8, 0, 200, 0}, impl.LotBad},
		{sale{2, 7, 21, 200, impl.First}, impl.LotShort}, {sale{2, 7, top, 200, impl.Last}, impl.LotShort}, {sale{2, 5, 1, 200, impl.Mean}, impl.LotShort},
		{sale{4, 7, 1, 200, impl.First}, impl.LotShort}, {sale{7, 7, 1, 200, impl.Last}, impl.LotShort}, {sale{2, 8, 1, 200, impl.Mean}, impl.LotShort},
	} {
		if _, _, code := impl.LotTake(b.Lots, c.s.account, c.s.instr, c.s.qty, c.s.way); code != c.code {
			t.Errorf("%v: the code is %d", c.s, code)
		}
		checkNoGain(t, b, c.s)
	}
}

func TestP19GainOfPrices(t *testing.T) {
	b := someBooks()
	for _, way := range threeWays() {
		for _, price := range append(wrongAmounts(), -1, -2, -top) {
			checkNoGain(t, b, sale{2, 7, 20, price, way})
			checkNoGain(t, b, sale{2, 9, 1, price, way})
		}
		checkGain(t, b, sale{2, 7, 20, 0, way}, -171, true)
		checkGain(t, b, sale{2, 9, 1, 0, way}, 0, true)
		checkGain(t, b, sale{2, 7, 20, top, way}, top-171, true)
		checkGain(t, b, sale{2, 9, 1, top, way}, top, true)
		// As much as can be gained and lost.
		for _, cost := range []int{0, 1, top / 2, top - 1, top} {
			for _, price := range []int{0, 1, top - 1, top} {
				checkGain(t, lotBooks(lotRows{{2, 7, 1, top, cost}}), sale{2, 7, top, price, way}, price-cost, true)
				checkGain(t, lotBooks(lotRows{{2, 7, 1, 1, cost}}), sale{2, 7, 1, price, way}, price-cost, true)
			}
		}
	}
	far := lotBooks(lotRows{{2, 7, 1, top - 1, top - 3}, {2, 7, 8, 1, 2}})
	for i, cost := range []int{0, 2, 0} {
		checkGain(t, far, sale{2, 7, 1, top, threeWays()[i]}, top-cost, true)
	}
}

func TestP19GainOfNoWay(t *testing.T) {
	for _, way := range []int{0, 4, -1, -3, 5, 100, top, math.MaxInt, math.MinInt} {
		for _, b := range []impl.Books{someBooks(), impl.BooksNew()} {
			checkNoGain(t, b, sale{2, 7, 20, 200, way})
			checkNoGain(t, b, sale{2, 7, 1, 0, way})
			checkNoGain(t, b, sale{2, 7, 0, 0, way})
		}
	}
}

func TestP19GainOfWhatIsNotThere(t *testing.T) {
	b := someBooks()
	for _, way := range threeWays() {
		for _, no := range append(wrongNumbers(), 7, 9, 999, 1000) {
			checkNoGain(t, b, sale{no, 7, 1, 200, way})
			checkNoGain(t, b, sale{no, 5, 1, 200, way})
		}
		for _, instr := range append(wrongNumbers(), 1, 4, 8, 10, 999, 1000) {
			checkNoGain(t, b, sale{2, instr, 1, 200, way})
		}
		// A Cash, a Paper that the holder has none of, and who has some without lots, lacks some or has nothing.
		for _, of := range [][2]int{{2, 5}, {2, 6}, {3, 5}, {6, 6}, {3, 9}, {6, 7}, {4, 7}, {4, 5}, {4, 6}, {1, 7}, {1, 5}, {5, 7}, {8, 9}} {
			checkNoGain(t, b, sale{of[0], of[1], 1, 200, way})
			checkNoGain(t, b, sale{of[0], of[1], 2, 0, way})
		}
	}
}

func TestP19GainOfWrongBooks(t *testing.T) {
	for _, b := range slices.Concat(wrongBooks(), wrongBooksByHand()) {
		for _, s := range []sale{{2, 7, 1, 200, impl.First}, {2, 7, 20, 200, impl.Last}, {3, 7, 5, 200, impl.Mean}, {2, 9, 1, 0, impl.First}, {4, 7, 1, 9, impl.First}, {1, 1, 1, 1, impl.Mean}, {2, 7, 0, 200, impl.First}} {
			if gain, ok := s.gain(b); gain != 0 || ok {
				t.Errorf("GainIf(%v, %v) = %d, %v", b, s, gain, ok)
			}
		}
	}
}

func TestP19GainByTheWords(t *testing.T) {
	for _, b := range slices.Concat(rightBooks(), oddBooks(), wrongBooks()[:10], booksOfMisfitLots()[:4], []impl.Books{farBooks()}) {
		for _, account := range []int{-1, 1, 2, 3, 4, 1000} {
			for _, instr := range []int{1, 5, 7, 9} {
				for _, qty := range []int{0, 1, 3, 10, 20, top - 1, top} {
					checkGainByWords(t, b, sale{account, instr, qty, 40 + qty%7, 1 + qty%3})
				}
			}
		}
	}
	for _, own := range []lotRows{{{2, 7, 1, 10, 101}, {2, 7, 4, 3, 50}, {2, 7, 9, 7, 20}}, {{2, 7, 1, 1, 1}, {2, 7, 2, 1, 2}, {2, 7, 3, 1, 4}, {2, 7, 4, 1, 8}}, {{2, 7, 1, 7, 5}, {2, 7, 5, 6, 0}}} {
		b := lotBooks(own)
		for qty := -1; qty <= 22; qty++ {
			for way := range 5 {
				checkGainByWords(t, b, sale{2, 7, qty, 31, way})
			}
		}
	}
}
