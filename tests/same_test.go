package tests

import (
	"slices"
	"testing"

	"loop.example/g00110/impl"
)

// checkSame holds two books against each other both ways.
func checkSame(t *testing.T, a impl.Books, b impl.Books, want bool) {
	t.Helper()
	if impl.BooksSame(a, b) != want || impl.BooksSame(b, a) != want {
		t.Errorf("BooksSame(%v, %v) = %v, %v; want %v", a, b, impl.BooksSame(a, b), impl.BooksSame(b, a), want)
	}
}

// differentBooks are books of which no two are alike, right ones and wrong ones.
func differentBooks() []impl.Books {
	small, _ := impl.CmdRun(impl.BooksNew(), smallRow())
	return slices.Concat(rightBooks(), []impl.Books{
		small, startedBooks(), corpBooks(), heldBooks(7), heldBooks(7, 1), heldBooks(1, 7), manyLotBooks(3, 41), deskBooks([2]int{9, 3}, [2]int{-4, 5}), fullBooksUncut(),
		{Lot: -1}, {Accounts: make([]impl.Account, 1)}, {Instrs: make([]impl.Instr, 1)}, {Bals: make([]impl.Bal, 1)}, {Lots: make([]impl.Lot, 1)}, {Trades: make([]impl.Trade, 1)},
		{Trades: make([]impl.Trade, 2)}, {Lots: make([]impl.Lot, 500)}, {Accounts: make([]impl.Account, 1), Instrs: make([]impl.Instr, 1)},
	})
}

func TestP10SameBooks(t *testing.T) {
	for i, a := range differentBooks() {
		for j, b := range differentBooks() {
			checkSame(t, a, b, i == j)
		}
		checkSame(t, a, a, true)
		checkSame(t, a, cloneBooks(a), true)
		// The room behind lists does not count.
		checkSame(t, a, roomyBooks(a).books, true)
		checkSame(t, roomyBooks(a).books, roomyBooks(a).books, true)
	}
	for _, b := range append(wrongBooks(), booksOfWrongBals()...) {
		checkSame(t, b, cloneBooks(b), true)
	}
}

// An empty list and nil are the same value, in each list.
func TestP10SameBooksWithNothing(t *testing.T) {
	empty := impl.Books{Accounts: []impl.Account{}, Instrs: []impl.Instr{}, Bals: []impl.Bal{}, Lots: []impl.Lot{}, Trades: []impl.Trade{}}
	checkSame(t, impl.Books{}, empty, true)
	checkSame(t, impl.BooksNew(), empty, true)
	checkSame(t, empty, empty, true)
	checkSame(t, impl.Books{Lot: 4}, lotted(empty, 4), true)
	checkSame(t, impl.Books{Lot: 4}, empty, false)
	for _, b := range []impl.Books{
		{Accounts: empty.Accounts}, {Instrs: empty.Instrs}, {Bals: empty.Bals}, {Lots: empty.Lots}, {Trades: empty.Trades}, {Bals: empty.Bals, Trades: empty.Trades},
	} {
		checkSame(t, b, impl.Books{}, true)
		checkSame(t, b, empty, true)
	}
	part := someBooks()
	part.Lots, part.Trades = nil, nil
	other := cloneBooks(part)
	other.Lots, other.Trades = []impl.Lot{}, []impl.Trade{}
	checkSame(t, part, other, true)
	checkSame(t, part, someBooks(), false)
}

// Any one number that is another one, of any row, tells books apart.
func TestP10SameBooksByEachNumber(t *testing.T) {
	for _, given := range []impl.Books{someBooks(), farBooks(), fullBooks(), smallBooks(), {Lot: 7}} {
		b := cloneBooks(given)
		for _, place := range numbersOf(&b) {
			old := *place
			for _, x := range []int{old + 1, old - 1, -old - 1, old + 1<<32, old ^ 1<<62} {
				*place = x
				checkSame(t, given, b, false)
			}
			*place = old
			checkSame(t, given, b, true)
		}
	}
}

// cutBooks are books with one row less of one list each, from either end, or with one more.
func cutBooks(given impl.Books) []impl.Books {
	list := []impl.Books{}
	with := func(turn func(b *impl.Books)) {
		b := cloneBooks(given)
		turn(&b)
		list = append(list, b)
	}
	with(func(b *impl.Books) { b.Accounts = b.Accounts[1:] })
	with(func(b *impl.Books) { b.Accounts = b.Accounts[:len(b.Accounts)-1] })
	with(func(b *impl.Books) { b.Accounts = append(b.Accounts, impl.Account{}) })
	with(func(b *impl.Books) { b.Accounts = nil })
	with(func(b *impl.Books) { b.Instrs = b.Instrs[1:] })
	with(func(b *impl.Books) { b.Instrs = b.Instrs[:len(b.Instrs)-1] })
	with(func(b *impl.Books) { b.Instrs = append(b.Instrs, impl.Instr{}) })
	with(func(b *impl.Books) { b.Instrs = nil })
	with(func(b *impl.Books) { b.Bals = b.Bals[1:] })
	with(func(b *impl.Books) { b.Bals = b.Bals[:len(b.Bals)-1] })
	with(func(b *impl.Books) { b.Bals = append(b.Bals, impl.Bal{}) })
	with(func(b *impl.Books) { b.Bals = nil })
	with(func(b *impl.Books) { b.Lots = b.Lots[1:] })
	with(func(b *impl.Books) { b.Lots = b.Lots[:len(b.Lots)-1] })
	with(func(b *impl.Books) { b.Lots = append(b.Lots, impl.Lot{}) })
	with(func(b *impl.Books) { b.Lots = nil })
	with(func(b *impl.Books) { b.Trades = b.Trades[1:] })
	with(func(b *impl.Books) { b.Trades = b.Trades[:len(b.Trades)-1] })
	with(func(b *impl.Books) { b.Trades = append(b.Trades, impl.Trade{}) })
	with(func(b *impl.Books) { b.Trades = nil })
	return list
}

// turnedBooks are books with two rows of one list each that change places.
func turnedBooks(given impl.Books) []impl.Books {
	list := []impl.Books{}
	with := func(turn func(b *impl.Books)) {
		b := cloneBooks(given)
		turn(&b)
		list = append(list, b)
	}
	with(func(b *impl.Books) { slices.Reverse(b.Accounts) })
	with(func(b *impl.Books) { slices.Reverse(b.Instrs) })
	with(func(b *impl.Books) { slices.Reverse(b.Bals) })
	with(func(b *impl.Books) { slices.Reverse(b.Lots) })
	with(func(b *impl.Books) { slices.Reverse(b.Trades) })
	with(func(b *impl.Books) { slices.Reverse(b.Accounts[:2]) })
	with(func(b *impl.Books) { slices.Reverse(b.Instrs[:2]) })
	with(func(b *impl.Books) { slices.Reverse(b.Bals[len(b.Bals)-2:]) })
	with(func(b *impl.Books) { slices.Reverse(b.Lots[len(b.Lots)-2:]) })
	with(func(b *impl.Books) { slices.Reverse(b.Trades[len(b.Trades)-2:]) })
	return list
}

func TestP10SameBooksByLengthAndOrder(t *testing.T) {
	for _, given := range []impl.Books{someBooks(), farBooks(), fullBooks(), smallBooks()} {
		others := slices.Concat(cutBooks(given), turnedBooks(given))
		for i, a := range others {
			checkSame(t, given, a, false)
			checkSame(t, a, cloneBooks(a), true)
			for j, b := range others {
				checkSame(t, a, b, sameBooks(a, b))
				if i/4 != j/4 && i < 20 && j < 20 {
					checkSame(t, a, b, false)
				}
			}
		}
	}
}
