package tests

import (
	"slices"
	"testing"

	"loop.example/g00110/impl"
)

// dice are numbers that are the same in each run: each call answers one from 0 on that is below n.
func dice(seed int) func(n int) int {
	x := uint64(seed)*2862933555777941757 + 3037000493
	return func(n int) int {
		x = x*6364136223846793005 + 1442695040888963407
		return int(x>>33) % n
	}
}

// diceCall is a call that books may do or refuse, of few numbers, so that they meet.
func diceCall(b impl.Books, roll func(n int) int) bookCall {
	no := func() int { return roll(9) }
	switch roll(12) {
	case 0:
		return accountCall(no(), roll(6))
	case 1:
		return instrCall(no(), roll(4))
	case 2, 3, 4, 5:
		return issueCall([]int{1, no()}[roll(2)], no(), 1+roll(5), roll(40), roll(2)*roll(200))
	}
	from, to, instr := no(), no(), no()
	if len(b.Bals) > 0 && roll(5) > 0 {
		bal := b.Bals[roll(len(b.Bals))]
		from, to, instr = bal.Account, 2+roll(3), bal.Instr
	}
	have := max(0, amountIn(b.Bals, from, instr))
	qty := []int{have, have + 1, have / 2, 1, roll(have + 2)}[roll(5)]
	return moveCall(from, to, instr, qty, roll(5))
}

// Whatever is commanded from new books on, each answer is what the words ask for, and the books stay right.
func TestP6Walks(t *testing.T) {
	done := [4]int{}
	for seed := range 200 {
		roll := dice(seed)
		b := impl.BooksNew()
		if seed%3 > 0 {
			b = startedBooks()
		}
		for range 250 {
			c := diceCall(b, roll)
			checkCallByWords(t, b, c)
			checkIssuedOrMoved(t, b, c)
			next, _, code := c.do(b)
			if code == impl.BkDone {
				b = next
				done[slices.Index([]string{"account", "instr", "issue", "move"}, c.what)]++
			}
		}
	}
	if slices.Min(done[:]) < 500 {
		t.Error("too few of them were done", done)
	}
}

func checkIssuedOrMoved(t *testing.T, b impl.Books, c bookCall) {
	t.Helper()
	switch c.what {
	case "issue":
		checkIssued(t, b, c)
	case "move":
		checkMoved(t, b, c)
	}
}

// startedBooks have accounts and instruments, and nothing more.
func startedBooks() impl.Books {
	return impl.Books{
		Accounts: chartOf(1, impl.Issuer, 2, impl.Holder, 3, impl.Holder, 4, impl.Holder, 5, impl.Dealer),
		Instrs:   instrsOf(1, impl.Cash, 2, impl.Paper, 3, impl.Paper),
	}
}

// A holder whose lots are all there can be still moves whole lots on, and nothing of it is lost on the way.
func TestP6WalkOfFullBooks(t *testing.T) {
	b := fullBooks()
	roll := dice(7)
	refused := 0
	for range 400 {
		from, to, instr := 1+roll(19), 1+roll(19), 1+roll(8)
		have := amountIn(b.Bals, from, instr)
		c := moveCall(from, to, instr, []int{max(1, have), 1 + roll(have+1), have + 1}[roll(3)], 1+roll(3))
		checkCallByWords(t, b, c)
		checkMoved(t, b, c)
		next, _, code := c.do(b)
		if code == impl.BkFull {
			refused++
		}
		if code == impl.BkDone {
			b = next
		}
	}
	all, costs := totals(b.Lots)
	wantAll, wantCosts := totals(fullBooks().Lots)
	if all != wantAll || costs != wantCosts || refused < 5 {
		t.Errorf("%d pieces that cost %d, %d moves refused as full; want %d that cost %d", all, costs, refused, wantAll, wantCosts)
	}
}

// booksRoom are books whose lists have marked room behind them.
type booksRoom struct {
	accounts []impl.Account
	instrs   []impl.Instr
	bals     []impl.Bal
	lots     []impl.Lot
	trades   []impl.Trade
	books    impl.Books
}

func roomyBooks(b impl.Books) booksRoom {
	r := booksRoom{books: impl.Books{Lot: b.Lot}}
	r.accounts, r.books.Accounts, _ = roomy(b.Accounts, impl.Account{No: spareMark})
	r.instrs, r.books.Instrs, _ = roomy(b.Instrs, impl.Instr{No: spareMark})
	r.bals, r.books.Bals, _ = roomy(b.Bals, impl.Bal{Account: spareMark})
	r.lots, r.books.Lots, _ = roomy(b.Lots, impl.Lot{Account: spareMark})
	r.trades, r.books.Trades, _ = roomy(b.Trades, impl.Trade{No: spareMark})
	return r
}

// kept says whether the lists and the room behind them are those of these books still.
func (r booksRoom) kept(b impl.Books) bool {
	fresh := roomyBooks(b)
	return slices.Equal(r.accounts, fresh.accounts) && slices.Equal(r.instrs, fresh.instrs) && slices.Equal(r.bals, fresh.bals) &&
		slices.Equal(r.lots, fresh.lots) && slices.Equal(r.trades, fresh.trades)
}

// fillBooks writes one number all over the lists of books and the room behind them.
func fillBooks(b impl.Books, x int) {
	fill(b.Accounts[:cap(b.Accounts)], impl.Account{No: x})
	fill(b.Instrs[:cap(b.Instrs)], impl.Instr{No: x})
	fill(b.Bals[:cap(b.Bals)], impl.Bal{Account: x})
	fill(b.Lots[:cap(b.Lots)], impl.Lot{Account: x})
	fill(b.Trades[:cap(b.Trades)], impl.Trade{No: x})
}

// allRightCalls are those of the books, of trades, of netting, and of change, splits and payments.
func allRightCalls() []bookCall {
	return slices.Concat(rightCalls(), rightTradeCalls(), rightNetCalls(), rightCorpCalls())
}

func TestP22BooksWriteIntoNoBooks(t *testing.T) {
	calls := slices.Concat(allRightCalls(), badCalls()[:30], badTradeCalls()[:10], badNetCalls()[:10], badCorpCalls()[:10])
	for _, given := range append(rightBooks(), wrongBooks()...) {
		for _, c := range calls {
			r := roomyBooks(given)
			impl.BooksOk(r.books)
			impl.TradesOk(r.books.Trades)
			next, _, _ := c.do(r.books)
			if !r.kept(given) {
				t.Errorf("%v writes into %v: %v", c, given, r)
			}
			// Whoever writes on into the books turns no answer, and the other way round.
			answer := cloneBooks(next)
			fillBooks(r.books, -5)
			if !sameBooks(next, answer) {
				t.Errorf("%v of %v: the answer shares memory with the books", c, given)
			}
			fillBooks(next, -6)
			if !allAre(r.accounts, impl.Account{No: -5}) || !allAre(r.instrs, impl.Instr{No: -5}) || !allAre(r.bals, impl.Bal{Account: -5}) ||
				!allAre(r.lots, impl.Lot{Account: -5}) || !allAre(r.trades, impl.Trade{No: -5}) {
				t.Errorf("%v of %v: the books share memory with the answer", c, given)
			}
		}
	}
}

// No list of an answer is turned by what is written into another one of it.
func TestP22ListsOfOneAnswerShareNothing(t *testing.T) {
	fills := []func(b impl.Books){
		func(b impl.Books) { fill(b.Accounts[:cap(b.Accounts)], impl.Account{No: -6}) },
		func(b impl.Books) { fill(b.Instrs[:cap(b.Instrs)], impl.Instr{No: -6}) },
		func(b impl.Books) { fill(b.Bals[:cap(b.Bals)], impl.Bal{Account: -6}) },
		func(b impl.Books) { fill(b.Lots[:cap(b.Lots)], impl.Lot{Account: -6}) },
		func(b impl.Books) { fill(b.Trades[:cap(b.Trades)], impl.Trade{No: -6}) },
	}
	for _, given := range rightBooks() {
		for _, c := range allRightCalls() {
			for i, write := range fills {
				next, _, _ := c.do(given)
				want := cloneBooks(next)
				write(next)
				write(want)
				if !sameBooks(next, want) {
					t.Errorf("%v of %v: what is written into list %d is seen in another one", c, given, i)
				}
			}
		}
	}
}

// Two calls of the same tell the same, whatever was done to the first answer.
func TestP22BooksAreNewEachTime(t *testing.T) {
	for _, b := range rightBooks() {
		for _, c := range allRightCalls() {
			first, _, _ := c.do(b)
			fillBooks(first, -6)
			checkCallByWords(t, b, c)
		}
	}
	b := impl.BooksNew()
	b.Accounts = append(b.Accounts, impl.Account{No: 3, Kind: 1})
	b.Lot = 8
	if !sameBooks(impl.BooksNew(), impl.Books{}) {
		t.Error("new books keep what was done to others")
	}
}
