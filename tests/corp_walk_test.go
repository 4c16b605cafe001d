package tests

import (
	"math"
	"slices"
	"testing"

	"loop.example/g00110/impl"
)

// rightCorpCalls are calls whose numbers are all as they should be, of which someBooks, farBooks and fullBooks refuse some.
func rightCorpCalls() []bookCall {
	return []bookCall{
		fxCall(2, 4, 5, 6, 100, 7, 3), fxCall(6, 4, 6, 5, 30, 1, 31), fxCall(2, 4, 5, 6, 301, 1, 1), fxCall(2, 4, 5, 6, 2, top, 1), fxCall(2, 3, 5, 6, 1, 1, 1),
		fxCall(2, 7, 5, 6, 1, 1, 1), splitCall(7, 3, 2, 1), splitCall(7, 1, 25, 8), splitCall(9, 1, 5, 1), splitCall(9, 1000000, 1000000, 8), splitCall(5, 2, 1, 1),
		splitCall(8, 2, 1, 1), splitCall(1, 2, 1, 2), splitCall(1, 1, 3, 20), payCall(7, 5, 1, 25), payCall(7, 6, 8, 7), payCall(9, 5, 1, 0),
		payCall(1, 7, 20, 5), payCall(1, 1000, 2, 5), payCall(7, 5, 4, 1), payCall(8, 5, 1, 1),
	}
}

// badCorpCalls have one number each that is not as it should be, of each call by turns.
func badCorpCalls() []bookCall {
	list := []bookCall{}
	for i := range 10 {
		for _, c := range rightCorpCalls() {
			places, wrong := map[string][]int{"fx": {0, 1, 2, 3}, "split": {0, 3}, "pay": {0, 1, 2}}[c.what], wrongNumbers()
			if i%2 == 1 {
				places, wrong = map[string][]int{"fx": {4, 5, 6}, "split": {1, 2}, "pay": {3}}[c.what], append(wrongAmounts(), -1)
			}
			c.args[places[i/2%len(places)]] = wrong[i%len(wrong)]
			list = append(list, c)
		}
	}
	return list
}

func checkCorpCall(t *testing.T, b impl.Books, c bookCall) {
	t.Helper()
	switch c.what {
	case "fx":
		checkFx(t, b, c)
	case "split":
		checkSplit(t, b, c)
	case "pay":
		checkPay(t, b, c)
	default:
		checkCallByWords(t, b, c)
	}
}

func TestP9BadBooks(t *testing.T) {
	for _, b := range wrongBooks() {
		for _, c := range rightCorpCalls() {
			checkBad(t, b, c)
		}
	}
	for _, b := range booksOfWrongBals() {
		for _, c := range badCorpCalls() {
			checkBad(t, b, c)
		}
	}
}

func TestP9BadNumbers(t *testing.T) {
	for _, c := range badCorpCalls() {
		for _, b := range []impl.Books{{}, someBooks(), farBooks(), fullBooks(), startedBooks()} {
			checkBad(t, b, c)
		}
	}
}

func TestP9FromNewBooksOn(t *testing.T) {
	b := impl.BooksNew()
	for _, c := range []bookCall{
		accountCall(1, impl.Issuer), accountCall(2, impl.Holder), accountCall(3, impl.Holder), accountCall(4, impl.Dealer),
		instrCall(7, impl.Paper), instrCall(8, impl.Cash), instrCall(9, impl.Cash), issueCall(1, 2, 7, 10, 200), issueCall(1, 3, 7, 5, 60),
	} {
		next, _, code := c.do(b)
		if code != impl.BkDone {
			t.Fatalf("%v of %v: %d", c, b, code)
		}
		b = next
	}
	split := withBal(withBal(withBal(b, 1, 7, -22, nil), 2, 7, 15, lotRows{{2, 7, 1, 15, 200}}), 3, 7, 7, lotRows{{3, 7, 2, 7, 60}})
	checkCall(t, b, splitCall(7, 3, 2, 1), split, 22, impl.BkDone)
	after := withBal(withBal(withBal(split, 1, 8, -10, nil), 2, 8, 7, nil), 3, 8, 3, nil)
	checkCall(t, split, payCall(7, 8, 1, 10), after, 2, impl.BkDone)
	desk := after
	desk.Bals = rows{{1, 7, -22}, {1, 8, -10}, {2, 7, 15}, {2, 8, 1}, {2, 9, 14}, {3, 7, 7}, {3, 8, 3}, {4, 8, 6}, {4, 9, -14}}.bals()
	checkCall(t, after, fxCall(2, 4, 8, 9, 6, 7, 3), desk, 14, impl.BkDone)
	checkRefusal(t, desk, fxCall(2, 4, 8, 9, 2, 7, 3), impl.BkShort)
	// What was issued can be moved on behind it, at its cost.
	moved := withBal(withBal(desk, 2, 7, 3, lotRows{{2, 7, 1, 3, 40}}), 3, 7, 19, lotRows{{3, 7, 2, 7, 60}, {3, 7, 3, 12, 160}})
	checkCall(t, desk, moveCall(2, 3, 7, 12, impl.First), lotted(moved, 3), 160, impl.BkDone)
}

// corpBooks have accounts of each kind that these calls need, and two of each kind of instrument.
func corpBooks() impl.Books {
	return impl.Books{
		Accounts: chartOf(1, impl.Issuer, 2, impl.Holder, 3, impl.Holder, 4, impl.Holder, 5, impl.Dealer, 6, impl.Issuer, 7, impl.Dealer),
		Instrs:   instrsOf(1, impl.Cash, 2, impl.Paper, 3, impl.Paper, 4, impl.Cash),
	}
}

// diceCorpCall is a call of change, splits and payments, or of what they need, that books may do or refuse.
func diceCorpCall(b impl.Books, roll func(n int) int) bookCall {
	cashes := []int{1, 4, 1, 4, 1, 4, 2, 5}
	papers := []int{2, 3, 2, 3, 2, 3, 2, 3, 1, 5}
	issuers := []int{1, 6, 1, 6, 1, 6, 2, 5, 9}
	switch roll(11) {
	case 0:
		return diceTradeCall(b, roll)
	case 1:
		return issueCall(1, 2+roll(3), cashes[roll(8)], 1+roll(300), 0)
	case 2, 3:
		return issueCall(1, 2+roll(3), papers[roll(10)], 1+roll(20), roll(100))
	case 4:
		return moveCall(2+roll(3), 2+roll(3), papers[roll(10)], 1+roll(9), 1+roll(3))
	case 5, 6:
		holder, from := 2+roll(4)*roll(4)/3, cashes[roll(8)]
		have := max(0, amountIn(b.Bals, holder, from))
		return fxCall(holder, 5+2*roll(2)+roll(9)/8, from, cashes[roll(8)], []int{have, have + 1, have / 2, 1, roll(have + 2)}[roll(5)], 1+roll(12), 1+roll(12)-roll(12)/11)
	case 7, 8:
		return payCall(papers[roll(10)], cashes[roll(8)], issuers[roll(9)], []int{roll(100), roll(4), 1, roll(2000), -roll(2)}[roll(5)])
	}
	n, d := 1+roll(6), 1+roll(6)
	switch roll(8) {
	case 0:
		n, d = 1, 10+roll(60)
	case 1:
		n, d = 1+roll(1000000), 1+roll(1000000)
	case 2:
		n -= roll(3)
	}
	return splitCall(papers[roll(10)], n, d, issuers[roll(9)])
}

// Whatever is commanded from new books on, each answer is what the words ask for, and the promises hold.
func TestP9Walks(t *testing.T) {
	codes := map[string]map[int]int{"fx": {}, "split": {}, "pay": {}}
	nothing := map[string]int{}
	for seed := range 120 {
		roll := dice(5000 + seed)
		b := corpBooks()
		for range 150 {
			c := diceCorpCall(b, roll)
			checkCorpCall(t, b, c)
			checkHeldByWords(t, b, c.args[0])
			next, told, code := c.do(b)
			if codes[c.what] != nil {
				codes[c.what][code]++
			}
			if code == impl.BkDone {
				b = next
				if told == 0 {
					nothing[c.what]++
				}
			}
		}
	}
	for what, counts := range codes {
		for _, code := range []int{impl.BkDone, impl.BkBad, impl.BkNone, impl.BkKind, impl.BkShort} {
			if counts[code] < 20 {
				t.Error("too few of a code", what, counts)
			}
		}
	}
	if nothing["fx"] < 20 || nothing["split"] < 20 {
		t.Error("too few that come to nothing", nothing)
	}
}

// Balances and lots are all that can be: what is split, paid and moved stays right.
func TestP9WalkOfFullBooks(t *testing.T) {
	roll := dice(13)
	done := map[string]int{}
	for range 8 {
		b := fullBooks()
		for range 40 {
			c := payCall(1+roll(6), 7+roll(2), 20, roll(400))
			switch roll(3) {
			case 0:
				c = splitCall(1+roll(6), 1+roll(9), 1+roll(9), 20)
			case 1:
				c = moveCall(1+roll(19), 1+roll(19), 1+roll(6), 1+roll(12), 1+roll(3))
			}
			checkCorpCall(t, b, c)
			if next, _, code := c.do(b); code == impl.BkDone {
				b = next
				done[c.what]++
			}
		}
	}
	if done["pay"] < 40 || done["split"] < 40 || done["move"] < 20 {
		t.Error("too few of them were done", done)
	}
}

// Far amounts by far rates: what is just an amount is done, what is not is too large.
func TestP9WalkOfFarNumbers(t *testing.T) {
	codes := map[string]map[int]int{"fx": {}, "split": {}, "pay": {}}
	for seed := range 3000 {
		roll := dice(9000 + seed)
		far := func() int {
			return min(top, max(1, []int{top, top / 2, top / 3, 1 + roll(1000), top / (1 + roll(1000000))}[roll(5)]+roll(5)-2))
		}
		ratio := func() int { return []int{1, 2, 3, 1 + roll(1000000), 1000000, 999999}[roll(6)] }
		amounts := []int{far() / 4, far() / 3, far() * roll(2), 1 + roll(3)}
		for _, c := range []struct {
			b    impl.Books
			call bookCall
		}{
			{heldBooks(amounts...), splitCall(7, ratio(), ratio(), 1+2*roll(4))},
			{paidBooks(far()-1, far()-1, -far()), payCall(7, 5, 1, far())},
			{deskBooks([2]int{far(), far() - 1}, [2]int{far() - 2, 2 - far()}), fxCall(2, 3, 5, 6, far(), far(), far())},
		} {
			if !booksRight(c.b) {
				continue
			}
			checkCorpCall(t, c.b, c.call)
			_, _, code := c.call.do(c.b)
			codes[c.call.what][code]++
		}
	}
	for what, counts := range codes {
		if counts[impl.BkDone] < 100 || counts[impl.BkLarge] < 100 {
			t.Error("too few of a code", what, counts)
		}
	}
}

func TestP22CorpAnswersAtAnyNumbers(t *testing.T) {
	odd := []int{math.MinInt, -top - 1, -1, 0, 1, 2, 5, 7, 1000, 1001, top, top + 1, math.MaxInt}
	for _, b := range []impl.Books{{}, someBooks(), farBooks(), wrongBooks()[0], booksOfWrongBals()[0]} {
		for _, x := range odd {
			for _, y := range odd {
				for _, z := range odd {
					checkCallByWords(t, b, splitCall(x, y, z, 1))
					checkCallByWords(t, b, splitCall(7, y, z, x))
					checkCallByWords(t, b, payCall(x, y, 1, z))
					checkCallByWords(t, b, payCall(7, 5, x, y))
					checkCallByWords(t, b, fxCall(x, y, 5, 6, z, 1, 1))
					checkCallByWords(t, b, fxCall(2, 4, 5, 6, x, y, z))
					checkCallByWords(t, b, fxCall(2, 4, x, y, 1, z, 1))
				}
			}
		}
	}
}

// corpMemoryBooks are books of which calls are done, refused with each code behind parts that were done, or not right.
func corpMemoryBooks() []impl.Books {
	large := manyLotBooks(41)
	large.Bals = rows{{1, 7, -top}, {2, 7, 123}, {3, 7, top - 123}}.bals()
	large.Accounts = chartOf(1, impl.Issuer, 2, impl.Holder, 3, impl.Dealer, 4, impl.Issuer)
	return slices.Concat(rightBooks(), wrongBooks()[:20], booksOfMisfitLots()[:4], []impl.Books{
		heldBooks(0, 0), heldBooks(3, 9, 1, 5), heldBooks(top, 1), heldBooks(top), manyLotBooks(40, 40, 40), manyLotBooks(3, 41), large,
		paidBooks(top, 4, 5), paidBooks(1, 2, -3), deskBooks([2]int{9, top}, [2]int{-4, 5}), deskBooks([2]int{9, 3}, [2]int{-4, 5}),
	})
}

func TestP22CorpWritesIntoNothing(t *testing.T) {
	calls := append(rightCorpCalls(), fxCall(2, 3, 5, 6, 9, 2, 3), fxCall(2, 3, 5, 6, 10, 1, 1), splitCall(7, 1, 2, 3), splitCall(7, 2, 1, 4), payCall(7, 5, 1, 31), payCall(7, 5, 3, top))
	for _, given := range corpMemoryBooks() {
		for _, c := range calls {
			r := roomyBooks(given)
			next, _, code := c.do(r.books)
			if !r.kept(given) {
				t.Errorf("%v writes into %v: %v", c, given, r)
			}
			answer := cloneBooks(next)
			other, _, _ := c.do(r.books)
			fillBooks(other, -6)
			fillBooks(r.books, -5)
			if !sameBooks(next, answer) {
				t.Errorf("%v of %v: the answer beside %d shares memory", c, given, code)
			}
			fillBooks(next, -7)
			if !r.allAre(-5) {
				t.Errorf("%v of %v: the books share memory with the answer beside %d", c, given, code)
			}
			checkCallByWords(t, given, c)
		}
	}
}
