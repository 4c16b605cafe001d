package tests

import (
	"bytes"
	"math"
	"slices"
	"testing"

	"loop.example/g00110/impl"
)

// packedBooks are books and their bytes.
type packedBooks struct {
	books impl.Books
	bytes []byte
}

// handBooks have rows of each list, and balances, numbers and prices whose forms are of several sizes.
func handBooks() packedBooks {
	return packedBooks{impl.Books{
		Accounts: chartOf(1, impl.Issuer, 300, impl.Holder, 1000, impl.Holder),
		Instrs:   instrsOf(7, impl.Paper, 128, impl.Cash),
		Bals:     rows{{1, 7, -5}, {1, 128, -300}, {300, 7, 5}, {1000, 128, 300}}.bals(),
		Lots:     lotRows{{300, 7, 3, 4, 129}, {300, 7, 9, 1, 0}}.lots(),
		Trades:   tradeRows{{2, 300, 1000, 7, 4, 128, 150, 1}, {3, 1000, 300, 7, 1, 128, 0, 2}, {500, 300, 1000, 7, top, 128, 16384, 3}}.trades(),
		Lot:      200,
	}, slices.Concat(
		[]byte{3, 1, 2, 172, 2, 1, 232, 7, 1},
		[]byte{2, 7, 2, 128, 1, 1},
		[]byte{4, 1, 7, 251, 255, 153, 166, 234, 175, 227, 1, 1, 128, 1, 212, 253, 153, 166, 234, 175, 227, 1},
		[]byte{172, 2, 7, 133, 128, 154, 166, 234, 175, 227, 1, 232, 7, 128, 1, 172, 130, 154, 166, 234, 175, 227, 1},
		[]byte{2, 172, 2, 7, 3, 4, 129, 1, 172, 2, 7, 9, 1, 0},
		[]byte{3, 2, 172, 2, 232, 7, 7, 4, 128, 1, 150, 1, 1, 3, 232, 7, 172, 2, 7, 1, 128, 1, 0, 2},
		[]byte{244, 3, 172, 2, 232, 7, 7, 128, 128, 154, 166, 234, 175, 227, 1, 128, 1, 128, 128, 1, 3},
		[]byte{200, 1},
	)}
}

// smallPackedBooks have each list alone, or with no more beside it than books need to be right.
func smallPackedBooks() []packedBooks {
	return []packedBooks{
		{impl.BooksNew(), []byte{0, 0, 0, 0, 0, 0}},
		{impl.Books{Lot: 9}, []byte{0, 0, 0, 0, 0, 9}},
		{impl.Books{Lot: 1000000000}, []byte{0, 0, 0, 0, 0, 128, 148, 235, 220, 3}},
		{impl.Books{Accounts: chartOf(5, impl.Dealer)}, []byte{1, 5, 3, 0, 0, 0, 0, 0}},
		{impl.Books{Accounts: chartOf(1, 1, 2, 2, 3, 3, 1000, 4)}, []byte{4, 1, 1, 2, 2, 3, 3, 232, 7, 4, 0, 0, 0, 0, 0}},
		{impl.Books{Instrs: instrsOf(300, impl.Paper)}, []byte{0, 1, 172, 2, 2, 0, 0, 0, 0}},
		{impl.Books{Instrs: instrsOf(5, impl.Cash, 6, impl.Paper)}, []byte{0, 2, 5, 1, 6, 2, 0, 0, 0, 0}},
		{impl.Books{Accounts: chartOf(1, impl.Issuer, 2, impl.Dealer), Instrs: instrsOf(5, impl.Cash), Bals: rows{{1, 5, -1000000000000000}, {2, 5, 1000000000000000}}.bals()},
			[]byte{2, 1, 2, 2, 3, 1, 5, 1, 2, 1, 5, 0, 2, 5, 128, 128, 180, 204, 212, 223, 198, 3, 0, 0, 0}},
		{impl.Books{Accounts: chartOf(1, impl.Holder, 2, impl.Issuer), Instrs: instrsOf(5, impl.Cash), Bals: rows{{1, 5, 1}, {2, 5, -1}}.bals()},
			[]byte{2, 1, 1, 2, 2, 1, 5, 1, 2, 1, 5, 129, 128, 154, 166, 234, 175, 227, 1, 2, 5, 255, 255, 153, 166, 234, 175, 227, 1, 0, 0, 0}},
		{impl.Books{Accounts: chartOf(1, impl.Holder, 2, impl.Issuer), Instrs: instrsOf(6, impl.Paper), Bals: rows{{1, 6, 3}, {2, 6, -3}}.bals(), Lots: lotRows{{1, 6, 4, 3, 8}}.lots(), Lot: 4},
			[]byte{2, 1, 1, 2, 2, 1, 6, 2, 2, 1, 6, 131, 128, 154, 166, 234, 175, 227, 1, 2, 6, 253, 255, 153, 166, 234, 175, 227, 1, 1, 1, 6, 4, 3, 8, 0, 4}},
		{impl.Books{Accounts: chartOf(1, impl.Holder, 2, impl.Holder), Instrs: instrsOf(5, impl.Cash, 6, impl.Paper), Trades: tradeRows{{9, 2, 1, 6, 10, 5, 11, 1}}.trades()},
			[]byte{2, 1, 1, 2, 1, 2, 5, 1, 6, 2, 0, 0, 1, 9, 2, 1, 6, 10, 5, 11, 1, 0}},
	}
}

func handPackedBooks() []packedBooks { return append(smallPackedBooks(), handBooks()) }

// booksNums are the numbers of which the bytes of books are the forms, by the words.
func booksNums(b impl.Books) []int {
	list := []int{}
	row := func(numbers ...int) { list = append(list, numbers...) }
	row(len(b.Accounts))
	for _, a := range b.Accounts {
		row(a.No, a.Kind)
	}
	row(len(b.Instrs))
	for _, i := range b.Instrs {
		row(i.No, i.Kind)
	}
	row(len(b.Bals))
	for _, bal := range b.Bals {
		row(bal.Account, bal.Instr, bal.Amount+1000000000000000)
	}
	row(len(b.Lots))
	for _, l := range b.Lots {
		row(l.Account, l.Instr, l.No, l.Qty, l.Cost)
	}
	row(len(b.Trades))
	for _, d := range b.Trades {
		row(d.No, d.Buyer, d.Seller, d.Paper, d.Qty, d.Cash, d.Price, d.State)
	}
	row(b.Lot)
	return list
}

func booksForms(b impl.Books) [][]byte {
	forms := [][]byte{}
	for _, x := range booksNums(b) {
		forms = append(forms, wantForm(x))
	}
	return forms
}

func wantBooksPack(b impl.Books) ([]byte, bool) {
	if !booksRight(b) {
		return nil, false
	}
	return wantForms(booksNums(b)), true
}

// checkBooksPack also wants the size that goes with the bytes.
func checkBooksPack(t *testing.T, b impl.Books, want []byte, wantOk bool) {
	t.Helper()
	if got, ok := impl.BooksPack(b); !bytes.Equal(got, want) || ok != wantOk {
		t.Errorf("BooksPack(%v) = %v, %v; want %v, %v", b, got, ok, want, wantOk)
	}
	wantSize := len(want)
	if !wantOk {
		wantSize = -1
	}
	if got := impl.BooksSize(b); got != wantSize {
		t.Errorf("BooksSize(%v) = %d; want %d", b, got, wantSize)
	}
}

func checkNotPacked(t *testing.T, b impl.Books) {
	t.Helper()
	checkBooksPack(t, b, nil, false)
}

func checkPackedBooks(t *testing.T, p packedBooks) {
	t.Helper()
	checkBooksPack(t, p.books, p.bytes, true)
	checkBooksRead(t, p.bytes, p.books, true)
}

func checkBooksReadAgain(t *testing.T, b impl.Books) {
	t.Helper()
	packed, ok := wantBooksPack(b)
	if !ok {
		t.Fatalf("these books are to be right: %v", b)
	}
	checkPackedBooks(t, packedBooks{b, packed})
}

func TestP13BooksByHand(t *testing.T) {
	for _, p := range handPackedBooks() {
		checkPackedBooks(t, p)
		// The words and the hand say the same.
		if want, ok := wantBooksPack(p.books); !ok || !bytes.Equal(want, p.bytes) {
			t.Errorf("by the words %v is %v, %v; by hand %v", p.books, want, ok, p.bytes)
		}
	}
}

func TestP13NewBooks(t *testing.T) {
	checkBooksPack(t, impl.BooksNew(), []byte{0, 0, 0, 0, 0, 0}, true)
	if n := impl.BooksSize(impl.BooksNew()); n != 6 {
		t.Errorf("new books have %d bytes", n)
	}
	// An empty list and nil are the same value.
	empty := impl.Books{Accounts: []impl.Account{}, Instrs: []impl.Instr{}, Bals: []impl.Bal{}, Lots: []impl.Lot{}, Trades: []impl.Trade{}}
	checkPackedBooks(t, packedBooks{empty, []byte{0, 0, 0, 0, 0, 0}})
}

func TestP13BooksAreReadAsTheyWere(t *testing.T) {
	list := slices.Concat(rightBooks(), rowBooks(), []impl.Books{smallBooks(), startedBooks(), corpBooks(), heldBooks(7), heldBooks(7, 1), manyLotBooks(3, 41), fullBooksUncut()})
	for _, b := range list {
		checkBooksReadAgain(t, b)
	}
}

// As many rows as there can be, of each list alone and of all of them.
func TestP13FullBooksAreReadAsTheyWere(t *testing.T) {
	full := fullBooks()
	lengths := []int{len(full.Accounts), len(full.Instrs), len(full.Bals), len(full.Lots), len(full.Trades)}
	if !slices.Equal(lengths, []int{20, 8, 160, 120, 30}) {
		t.Fatalf("the full books have %v rows", lengths)
	}
	checkBooksReadAgain(t, full)
	checkBooksReadAgain(t, impl.Books{Accounts: full.Accounts})
	checkBooksReadAgain(t, impl.Books{Instrs: full.Instrs})
	checkBooksReadAgain(t, impl.Books{Accounts: full.Accounts, Instrs: full.Instrs, Trades: full.Trades, Lot: lastNo})
	// The balances of those who are no holders need no lots.
	bals := cloneBooks(full)
	bals.Lots, bals.Trades = nil, nil
	for i := range bals.Accounts {
		bals.Accounts[i].Kind = impl.Issuer
	}
	checkBooksReadAgain(t, bals)
	lots := cloneBooks(full)
	lots.Trades = nil
	lots.Bals = slices.DeleteFunc(lots.Bals, func(b impl.Bal) bool { return kindIn(full.Instrs, b.Instr) == impl.Cash })
	checkBooksReadAgain(t, lots)
}

// mostBooks have the longest forms that there can be, in each row of as many as there can be.
func mostBooks() impl.Books {
	b := impl.Books{Lot: lastNo}
	for i := range impl.MaxAccounts {
		b.Accounts = append(b.Accounts, impl.Account{No: 981 + i, Kind: 1 + i%2})
	}
	for i := range impl.MaxInstrs {
		b.Instrs = append(b.Instrs, impl.Instr{No: 993 + i, Kind: 1 + i%2})
	}
	for i, a := range b.Accounts {
		for j, instr := range b.Instrs {
			amount := top - i/2
			if a.Kind == impl.Issuer {
				amount = i/2 - top
			}
			b.Bals = append(b.Bals, impl.Bal{Account: a.No, Instr: instr.No, Amount: amount})
			if a.Kind == impl.Holder && instr.Kind == impl.Paper {
				for k := range 3 {
					b.Lots = append(b.Lots, lotOf([5]int{a.No, instr.No, lastNo - 500 + 10*i + k, []int{amount - 5, 4, 1}[k], []int{top - 9, 9, 0}[(k+j)%3]}))
				}
			}
		}
	}
	for i := range impl.MaxTrades {
		b.Trades = append(b.Trades, tradeOf([8]int{971 + i, 981, 983 + 2*(i%9), 994 + 2*(i%4), top - i, 993 + 2*(i%4), top, 1 + i%3}))
	}
	return b
}

func TestP13BooksOfTheMostBytes(t *testing.T) {
	b := mostBooks()
	if len(b.Lots) != impl.MaxLots {
		t.Fatalf("%d lots", len(b.Lots))
	}
	checkBooksReadAgain(t, b)
}

// A balance of 0 is one that is not there: books that had one are read without it, and no row of 0 is written.
func TestP13BalancesOfNothing(t *testing.T) {
	given := smallBooks()
	b, _, code := impl.BookMove(given, 2, 3, 8, amountIn(given.Bals, 2, 8), impl.First)
	if code != impl.BkDone || amountIn(b.Bals, 2, 8) != 0 || len(b.Bals) != len(given.Bals)-1 {
		t.Fatal("not moved", code, b)
	}
	checkBooksReadAgain(t, b)
	packed, _ := impl.BooksPack(b)
	read, _ := impl.BooksRead(packed)
	if impl.BalOf(read.Bals, 2, 8) != 0 || impl.BalOf(read.Bals, 3, 8) != 500 || impl.BalOf(read.Bals, 1, 8) != -600 {
		t.Errorf("the balances are %v", read.Bals)
	}
	accounts, instrs := chartOf(1, impl.Issuer, 2, impl.Dealer), instrsOf(5, impl.Cash)
	checkNotPacked(t, impl.Books{Accounts: accounts, Instrs: instrs, Bals: rows{{1, 5, 0}}.bals()})
	checkNotPacked(t, impl.Books{Accounts: accounts, Instrs: instrs, Bals: rows{{1, 5, 0}, {2, 5, 0}}.bals()})
	checkNoBooks(t, slices.Concat([]byte{2, 1, 2, 2, 3, 1, 5, 1, 1, 1, 5}, topForm(), []byte{0, 0, 0}))
	for _, amount := range []int{-top, 1 - top, -128, -127, -2, -1, 1, 2, 127, 128, 16384, top - 1, top} {
		checkBooksReadAgain(t, impl.Books{Accounts: accounts, Instrs: instrs, Bals: rows{{1, 5, amount}, {2, 5, -amount}}.bals()})
	}
}

// Each number of books has a place of its own: another one there is read as it is, where the books are right with it.
func TestP13EachNumberOfBooks(t *testing.T) {
	counts := [2]int{}
	for _, given := range []impl.Books{someBooks(), farBooks(), smallBooks(), handBooks().books} {
		b := cloneBooks(given)
		for _, place := range numbersOf(&b) {
			old := *place
			for _, x := range []int{old - 1, old + 1, 0, 1, 2, 3, 4, 9, 127, 128, 1000, 1001, lastNo, lastNo + 1, top - 1, top, top + 1, -1, -top, -top - 1, math.MinInt, math.MaxInt} {
				*place = x
				want, ok := wantBooksPack(b)
				checkBooksPack(t, b, want, ok)
				if ok {
					checkBooksRead(t, want, b, true)
					counts[1]++
				} else {
					counts[0]++
				}
			}
			*place = old
		}
	}
	if counts[0] < 2000 || counts[1] < 500 {
		t.Error("too few of one kind", counts)
	}
}

func TestP13WrongBooksAreNotPacked(t *testing.T) {
	for _, b := range wrongBooks() {
		checkNotPacked(t, b)
	}
	for _, b := range append(wrongBooksByHand(), tooLongBooks()...) {
		checkNotPacked(t, b)
	}
	for _, b := range cutBooks(someBooks()) {
		want, ok := wantBooksPack(b)
		checkBooksPack(t, b, want, ok)
	}
	for _, b := range turnedBooks(someBooks()) {
		checkNotPacked(t, b)
	}
}

// wrongBooksByHand are the books by hand with one thing wrong each, all of it in numbers that have forms.
func wrongBooksByHand() []impl.Books {
	list := []impl.Books{}
	with := func(turn func(b *impl.Books)) {
		b := cloneBooks(handBooks().books)
		turn(&b)
		list = append(list, b)
	}
	with(func(b *impl.Books) { slices.Reverse(b.Accounts) })
	with(func(b *impl.Books) { b.Accounts = twice(b.Accounts, 1) })
	with(func(b *impl.Books) { b.Accounts[2].No = 1001 })
	with(func(b *impl.Books) { b.Accounts[0].No = 0 })
	with(func(b *impl.Books) { b.Accounts[0].Kind = 5 })
	with(func(b *impl.Books) { b.Accounts[0].Kind = 0 })
	with(func(b *impl.Books) { slices.Reverse(b.Instrs) })
	with(func(b *impl.Books) { b.Instrs = twice(b.Instrs, 0) })
	with(func(b *impl.Books) { b.Instrs = append(b.Instrs, impl.Instr{No: 1001, Kind: impl.Cash}) })
	with(func(b *impl.Books) { b.Instrs = append(b.Instrs, impl.Instr{No: 200, Kind: 3}) })
	with(func(b *impl.Books) { slices.Reverse(b.Bals) })
	with(func(b *impl.Books) { b.Bals = twice(b.Bals, 2) })
	with(func(b *impl.Books) { b.Bals = append(b.Bals, impl.Bal{Account: 1001, Instr: 7, Amount: 1}) })
	with(func(b *impl.Books) { b.Bals[0].Amount = -6 })
	with(func(b *impl.Books) { b.Bals[1].Amount, b.Bals[3].Amount = 300, -300 })
	with(func(b *impl.Books) { b.Bals[1].Amount, b.Bals[3].Amount = -top-1, top+1 })
	with(func(b *impl.Books) { slices.Reverse(b.Lots) })
	with(func(b *impl.Books) { b.Lots[0].Qty, b.Lots = 2, twice(b.Lots, 0) })
	with(func(b *impl.Books) { b.Lots[0].No = 0 })
	with(func(b *impl.Books) { b.Lots[0].Qty = 3 })
	with(func(b *impl.Books) { b.Lots[0].Qty, b.Lots[1].Qty = 5, 0 })
	with(func(b *impl.Books) { b.Lots[0].Cost = top + 1 })
	with(func(b *impl.Books) { b.Lots[0].Cost, b.Lots[1].Cost = top, 1 })
	with(func(b *impl.Books) { b.Lots[1].No = 201 })
	with(func(b *impl.Books) { slices.Reverse(b.Trades) })
	with(func(b *impl.Books) { b.Trades = twice(b.Trades, 1) })
	with(func(b *impl.Books) { b.Trades[2].No = 1001 })
	with(func(b *impl.Books) { b.Trades[2].Buyer = 1000 })
	with(func(b *impl.Books) { b.Trades[2].Buyer = 1 })
	with(func(b *impl.Books) { b.Trades[2].Paper = 128 })
	with(func(b *impl.Books) { b.Trades[2].Cash = 7 })
	with(func(b *impl.Books) { b.Trades[2].Qty = 0 })
	with(func(b *impl.Books) { b.Trades[2].Qty = top + 1 })
	with(func(b *impl.Books) { b.Trades[2].Price = top + 1 })
	with(func(b *impl.Books) { b.Trades[2].State = 0 })
	with(func(b *impl.Books) { b.Trades[2].State = 4 })
	with(func(b *impl.Books) { b.Lot = 8 })
	with(func(b *impl.Books) { b.Lot = 0 })
	with(func(b *impl.Books) { b.Lot = 1000000001 })
	// Rows that stand alone, without what they are rows of.
	hand := handBooks().books
	return append(list, impl.Books{Bals: hand.Bals}, impl.Books{Lots: hand.Lots, Lot: 200}, impl.Books{Trades: hand.Trades},
		impl.Books{Accounts: hand.Accounts, Bals: hand.Bals}, impl.Books{Instrs: hand.Instrs, Bals: hand.Bals})
}

// tooLongBooks have one row more of a list than there can be.
func tooLongBooks() []impl.Books {
	full := fullBooks()
	bals, lots, trades := cloneBooks(full), cloneBooks(full), cloneBooks(full)
	bals.Bals = append(bals.Bals, impl.Bal{Account: 21, Instr: 1, Amount: 1})
	// The pieces come to the balance still.
	last := &lots.Lots[impl.MaxLots-1]
	last.Qty--
	lots.Lots = append(lots.Lots, impl.Lot{Account: last.Account, Instr: last.Instr, No: 999, Qty: 1})
	trades.Trades = append(trades.Trades, tradeOf([8]int{900, 1, 4, 1, 7, 7, 9, 1}))
	return []impl.Books{
		{Accounts: accountFace().ascending(21, 1, 1)}, {Instrs: instrFace().ascending(9, 1, 1)}, bals, lots, trades,
		{Accounts: accountFace().ascending(300, 1, 1)}, {Instrs: instrFace().ascending(300, 1, 1)}, {Bals: make([]impl.Bal, 3000)}, {Lots: make([]impl.Lot, 3000)}, {Trades: make([]impl.Trade, 3000)},
	}
}

// Books that commands came to, from new ones on, are read as they were behind each command.
func TestP13BooksBehindEachCommand(t *testing.T) {
	lots, trades := 0, 0
	for seed := range 12 {
		b := impl.BooksNew()
		for _, c := range drawnRow(t, seed, 120, map[int]map[int]int{}) {
			if next, reply := impl.CmdApply(b, c); reply.Code == impl.BkDone {
				b = next
				checkBooksReadAgain(t, b)
			}
		}
		lots, trades = lots+len(b.Lots), trades+len(b.Trades)
	}
	if lots < 20 || trades < 20 {
		t.Errorf("the rows came to %d lots and %d trades, which are too few", lots, trades)
	}
}

// What is read does what the books themselves do.
func TestP13BooksThatAreReadDoTheSame(t *testing.T) {
	for _, b := range rightBooks() {
		packed, _ := impl.BooksPack(b)
		read, _ := impl.BooksRead(packed)
		row := cmdsOf(doneCalls()...)
		want, wantReplies := impl.CmdRun(b, row)
		got, replies := impl.CmdRun(read, row)
		if !impl.BooksSame(got, want) || !slices.Equal(replies, wantReplies) {
			t.Errorf("%v come to %v, %v; read again to %v, %v", b, want, wantReplies, got, replies)
		}
	}
}
