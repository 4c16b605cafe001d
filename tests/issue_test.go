package tests

import (
	"testing"

	"loop.example/g00110/impl"
)

// withBal is books in which a balance and the lots of it are others.
func withBal(b impl.Books, account int, instr int, amount int, own lotRows) impl.Books {
	b.Bals = balWith(b.Bals, account, instr, amount)
	b.Lots = inPlace(b.Lots, account, instr, own.lots())
	return b
}

func TestP6IssueFromNewBooksOn(t *testing.T) {
	b := impl.BooksNew()
	b, _ = impl.BookAccount(b, 1, impl.Issuer)
	b, _ = impl.BookAccount(b, 2, impl.Holder)
	b, _ = impl.BookInstr(b, 7, impl.Paper)
	b, _ = impl.BookInstr(b, 5, impl.Cash)
	want := impl.Books{Accounts: chartOf(1, impl.Issuer, 2, impl.Holder), Instrs: instrsOf(5, impl.Cash, 7, impl.Paper)}
	want.Bals, want.Lots, want.Lot = rows{{1, 7, -10}, {2, 7, 10}}.bals(), lotRows{{2, 7, 1, 10, 200}}.lots(), 1
	checkCall(t, b, issueCall(1, 2, 7, 10, 200), want, 0, impl.BkDone)
	b, _ = impl.BookIssue(b, 1, 2, 7, 10, 200)
	want.Bals, want.Lots, want.Lot = rows{{1, 7, -11}, {2, 7, 11}}.bals(), lotRows{{2, 7, 1, 10, 200}, {2, 7, 2, 1, 0}}.lots(), 2
	checkCall(t, b, issueCall(1, 2, 7, 1, 0), want, 0, impl.BkDone)
	b, _ = impl.BookIssue(b, 1, 2, 7, 1, 0)
	// Of a Cash no lot is opened.
	want.Bals = rows{{1, 5, -3}, {1, 7, -11}, {2, 5, 3}, {2, 7, 11}}.bals()
	checkCall(t, b, issueCall(1, 2, 5, 3, 0), want, 0, impl.BkDone)
}

func TestP6Issue(t *testing.T) {
	b := someBooks()
	want := withBal(withBal(b, 1, 7, -30, nil), 3, 7, 8, lotRows{{3, 7, 3, 5, 60}, {3, 7, 10, 3, 90}})
	want.Lot = 10
	checkCall(t, b, issueCall(1, 3, 7, 3, 90), want, 0, impl.BkDone)
	// Another issuer, and a holder that has none of it.
	want = withBal(withBal(b, 8, 9, -1, nil), 6, 9, 1, lotRows{{6, 9, 10, 1, 0}})
	want.Lot = 10
	checkCall(t, b, issueCall(8, 6, 9, 1, 0), want, 0, impl.BkDone)
	want = withBal(withBal(b, 8, 9, -top, nil), 6, 9, top, lotRows{{6, 9, 10, top, top}})
	want.Lot = 10
	checkCall(t, b, issueCall(8, 6, 9, top, top), want, 0, impl.BkDone)
	checkCall(t, b, issueCall(1, 2, 5, 10, 0), withBal(withBal(b, 1, 5, -510, nil), 2, 5, 310, nil), 0, impl.BkDone)
	checkCall(t, b, issueCall(8, 6, 5, top, 0), withBal(withBal(b, 8, 5, -top, nil), 6, 5, top, nil), 0, impl.BkDone)
	// An issuer that has some gives it away, and has none left: the balance is gone.
	has := withBal(withBal(b, 8, 6, 4, nil), 4, 6, -34, nil)
	checkCall(t, has, issueCall(8, 3, 6, 4, 0), withBal(withBal(has, 8, 6, 0, nil), 3, 6, 4, nil), 0, impl.BkDone)
	checkCall(t, has, issueCall(8, 3, 6, 5, 0), withBal(withBal(has, 8, 6, -1, nil), 3, 6, 5, nil), 0, impl.BkDone)
}

func TestP6IssueOfWhatIsNotThere(t *testing.T) {
	b := someBooks()
	for _, c := range []bookCall{
		issueCall(7, 2, 7, 1, 0), issueCall(1, 7, 7, 1, 0), issueCall(1, 2, 8, 1, 0), issueCall(1000, 2, 5, 1, 0), issueCall(1, 9, 5, 1, 0),
		issueCall(1, 2, 1000, 1, 0), issueCall(7, 7, 8, 1, 0),
		// What is of a wrong kind is told only where all are there.
		issueCall(2, 7, 7, 1, 0), issueCall(7, 1, 7, 1, 0), issueCall(2, 1, 8, 1, 0), issueCall(7, 2, 5, 1, 5), issueCall(1, 7, 5, 1, 5), issueCall(1, 2, 4, 1, 5),
		issueCall(1, 7, 7, top, top),
	} {
		checkRefusal(t, b, c, impl.BkNone)
		checkRefusal(t, impl.BooksNew(), c, impl.BkNone)
	}
}

func TestP6IssueOfWrongKinds(t *testing.T) {
	for _, c := range []bookCall{
		issueCall(2, 3, 7, 1, 0), issueCall(4, 3, 7, 1, 0), issueCall(5, 3, 7, 1, 0), issueCall(1, 8, 7, 1, 0), issueCall(1, 4, 7, 1, 0),
		issueCall(1, 5, 7, 1, 0), issueCall(2, 1, 7, 1, 0), issueCall(1, 1, 7, 1, 0), issueCall(2, 2, 7, 1, 0), issueCall(4, 3, 5, 1, 0),
		issueCall(1, 2, 5, 1, 1), issueCall(1, 2, 6, 1, top), issueCall(8, 3, 5, top, 1),
	} {
		checkRefusal(t, someBooks(), c, impl.BkKind)
	}
	// A wrong kind comes ahead of what is too large, and of lots that are full.
	last := farBooks()
	last.Lot = lastNo
	for _, c := range []bookCall{issueCall(2, 1, 1000, top, 1), issueCall(1, 4, 1, 5, 5), issueCall(2, 3, 1, top, top), issueCall(2, 1000, 1000, 1, 1)} {
		checkRefusal(t, last, c, impl.BkKind)
	}
}

func TestP6IssueThatIsTooLarge(t *testing.T) {
	b := someBooks()
	checkRefusal(t, b, issueCall(8, 2, 5, top-299, 0), impl.BkLarge)
	checkCall(t, b, issueCall(8, 2, 5, top-300, 0), withBal(withBal(b, 8, 5, 300-top, nil), 2, 5, top, nil), 0, impl.BkDone)
	checkRefusal(t, b, issueCall(1, 6, 5, top-499, 0), impl.BkLarge)
	checkCall(t, b, issueCall(1, 6, 5, top-500, 0), withBal(withBal(b, 1, 5, -top, nil), 6, 5, top-500, nil), 0, impl.BkDone)
	checkRefusal(t, b, issueCall(8, 3, 7, top-4, 0), impl.BkLarge)
	want := withBal(withBal(b, 8, 7, 5-top, nil), 3, 7, top, lotRows{{3, 7, 3, 5, 60}, {3, 7, 10, top - 5, 0}})
	want.Lot = 10
	checkCall(t, b, issueCall(8, 3, 7, top-5, 0), want, 0, impl.BkDone)
	far := farBooks()
	checkRefusal(t, far, issueCall(2, 1, 1000, 1, 0), impl.BkLarge)
	checkRefusal(t, far, issueCall(2, 4, 1, 1, 0), impl.BkLarge)
	checkRefusal(t, far, issueCall(3, 1000, 1000, 1, 0), impl.BkLarge)
	// The balances are the part that is named first: they count ahead of lots that are full.
	far.Lot = lastNo
	checkRefusal(t, far, issueCall(2, 4, 1, 1, 0), impl.BkLarge)
	checkRefusal(t, far, issueCall(3, 1, 1, 1, top), impl.BkLarge)
}

// The balances are turned and the lot is refused: nothing is turned.
func TestP6IssueWhereLotsAreFull(t *testing.T) {
	full := fullBooks()
	checkRefusal(t, full, issueCall(20, 1, 1, 1, 0), impl.BkFull)
	checkRefusal(t, full, issueCall(20, 19, 6, 5, top), impl.BkFull)
	checkCall(t, full, issueCall(20, 1, 7, 1, 0), withBal(withBal(full, 20, 7, -191, nil), 1, 7, 11, nil), 0, impl.BkDone)
	room := withLotsCut(fullBooksUncut(), impl.MaxLots-1)
	checkCallByWords(t, room, issueCall(20, 1, 1, 1, 0))
	if b, code := impl.BookIssue(room, 20, 1, 1, 1, 0); code != impl.BkDone || len(b.Lots) != impl.MaxLots {
		t.Error("a lot for which there is room", b, code)
	}
	// All costs of one together would be no amount, though the pieces would.
	costs := withBal(withBal(someBooks(), 1, 7, -23, nil), 3, 7, 1, lotRows{{3, 7, 3, 1, top - 5}})
	checkRefusal(t, costs, issueCall(1, 3, 7, 1, 6), impl.BkFull)
	checkRefusal(t, costs, issueCall(8, 3, 7, 1, top), impl.BkFull)
	want := withBal(withBal(costs, 1, 7, -24, nil), 3, 7, 2, lotRows{{3, 7, 3, 1, top - 5}, {3, 7, 10, 1, 5}})
	want.Lot = 10
	checkCall(t, costs, issueCall(1, 3, 7, 1, 5), want, 0, impl.BkDone)
}

// fullBooksUncut are the full books with one lot for each that a holder has.
func fullBooksUncut() impl.Books {
	b := fullBooks()
	lots := []impl.Lot{}
	for _, l := range b.Lots {
		if len(lots) > 0 && sameHolding(lots[len(lots)-1], l) {
			lots[len(lots)-1].Qty += l.Qty
			continue
		}
		lots = append(lots, l)
	}
	b.Lots = lots
	return b
}

func TestP6IssueOfTheLastLots(t *testing.T) {
	b := someBooks()
	b.Lot = lastNo - 1
	want := withBal(withBal(b, 1, 7, -28, nil), 3, 7, 6, lotRows{{3, 7, 3, 5, 60}, {3, 7, lastNo, 1, 4}})
	want.Lot = lastNo
	checkCall(t, b, issueCall(1, 3, 7, 1, 4), want, 0, impl.BkDone)
	checkRefusal(t, want, issueCall(1, 3, 7, 1, 4), impl.BkFull)
	checkRefusal(t, want, issueCall(8, 6, 9, 1, 0), impl.BkFull)
	// Of a Cash no lot is needed.
	checkCall(t, want, issueCall(1, 3, 5, 1, 0), withBal(withBal(want, 1, 5, -501, nil), 3, 5, 151, nil), 0, impl.BkDone)
	empty := someBooks()
	empty.Bals, empty.Lots, empty.Trades, empty.Lot = nil, nil, nil, 0
	first := withBal(withBal(empty, 1, 9, -2, nil), 2, 9, 2, lotRows{{2, 9, 1, 2, 9}})
	first.Lot = 1
	checkCall(t, empty, issueCall(1, 2, 9, 2, 9), first, 0, impl.BkDone)
}

// What is issued the holder has more and the issuer less, with its cost; nobody else has another thing.
func checkIssued(t *testing.T, b impl.Books, c bookCall) {
	t.Helper()
	next, code := impl.BookIssue(b, c.args[0], c.args[1], c.args[2], c.args[3], c.args[4])
	if code != impl.BkDone {
		return
	}
	for _, a := range b.Accounts {
		for _, i := range b.Instrs {
			qty, lotQty, cost := 0, 0, 0
			if a.No == c.args[0] && i.No == c.args[2] {
				qty = -c.args[3]
			}
			if a.No == c.args[1] && i.No == c.args[2] {
				qty, cost = c.args[3], c.args[4]
				if i.Kind == impl.Paper {
					lotQty = qty
				}
			}
			checkTurnedBy(t, b, next, c, a.No, i.No, [3]int{qty, lotQty, cost})
		}
	}
}

// checkTurnedBy wants a balance, the pieces in lots and their cost to be turned by just so much.
func checkTurnedBy(t *testing.T, b impl.Books, next impl.Books, c bookCall, account int, instr int, want [3]int) {
	t.Helper()
	got := [3]int{
		impl.BalOf(next.Bals, account, instr) - impl.BalOf(b.Bals, account, instr),
		impl.LotsQty(next.Lots, account, instr) - impl.LotsQty(b.Lots, account, instr),
		impl.LotsCost(next.Lots, account, instr) - impl.LotsCost(b.Lots, account, instr),
	}
	if got != want {
		t.Errorf("%v of %v turns %d of %d by %v; want %v", c, b, instr, account, got, want)
	}
}

func TestP6IssuesByTheWords(t *testing.T) {
	last := someBooks()
	last.Lot = lastNo
	for _, b := range []impl.Books{{}, someBooks(), last, farBooks()} {
		for _, issuer := range []int{0, 1, 2, 4, 7, 8, 20, 1000} {
			for _, holder := range []int{1, 2, 3, 4, 6, 7, 1000, 1001} {
				for _, instr := range []int{0, 1, 5, 7, 8, 1000} {
					for _, qty := range []int{0, 1, 2, top, top + 1} {
						for _, cost := range []int{-1, 0, 1, top, top + 1} {
							c := issueCall(issuer, holder, instr, qty, cost)
							checkCallByWords(t, b, c)
							checkIssued(t, b, c)
						}
					}
				}
			}
		}
	}
}
