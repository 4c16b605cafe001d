package tests

import (
	"math"
	"slices"
	"testing"

	"loop.example/g00110/impl"
)

// wantNet is what BookNet must answer of right books, but for the legs: each open trade settled by the words, one behind the other.
func wantNet(b impl.Books, from int, to int, way int) (impl.Books, int, int) {
	nos := wantTradesOpen(b, from, to)
	if len(nos) == 0 {
		return b, 0, impl.BkNone
	}
	next, gains := b, 0
	for _, no := range nos {
		behind, gain, code := wantSettle(next, no, way)
		if code != impl.BkDone {
			return b, 0, code
		}
		next, gains = behind, gains+gain
	}
	if _, ok := wantNetLegs(b, nos); !ok || gains < -top || gains > top {
		return b, 0, impl.BkLarge
	}
	return next, gains, impl.BkDone
}

func checkNet(t *testing.T, b impl.Books, c bookCall, want impl.Books, wantLegs []impl.Leg, wantGains int, wantCode int) {
	t.Helper()
	checkCall(t, b, c, want, wantGains, wantCode)
	if _, legs, _, _ := impl.BookNet(b, c.args[0], c.args[1], c.args[2]); !slices.Equal(legs, wantLegs) {
		t.Errorf("%v of %v tells %v; want %v", c, b, legs, wantLegs)
	}
	checkNetted(t, b, c)
}

func checkNetRefusal(t *testing.T, b impl.Books, c bookCall, wantCode int) {
	t.Helper()
	checkNet(t, b, c, b, nil, 0, wantCode)
}

func checkNetBad(t *testing.T, b impl.Books, c bookCall) {
	t.Helper()
	checkNet(t, b, c, impl.Books{}, nil, 0, impl.BkBad)
}

func checkNetByWords(t *testing.T, b impl.Books, c bookCall) {
	t.Helper()
	want, gains, code := c.want(b)
	legs := []impl.Leg{}
	if code == impl.BkDone {
		legs, _ = wantNetLegs(b, wantTradesOpen(b, c.args[0], c.args[1]))
	}
	checkNet(t, b, c, want, legs, gains, code)
}

// checkNetted is the promise: what is netted are the books that BookSettle makes trade by trade, and its legs, posted at once, make their balances.
func checkNetted(t *testing.T, b impl.Books, c bookCall) {
	t.Helper()
	next, legs, gains, code := impl.BookNet(b, c.args[0], c.args[1], c.args[2])
	if code == impl.BkBad {
		return
	}
	nos := impl.TradesOpen(b, c.args[0], c.args[1])
	want, wantGains, wantCode := settledInTurn(b, nos, c.args[2])
	if len(nos) == 0 {
		wantCode = impl.BkNone
	}
	if !sameBooks(next, want) || gains != wantGains || code != wantCode {
		t.Errorf("%v of %v = %v, %d, %d; one by one %v, %d, %d", c, b, next, gains, code, want, wantGains, wantCode)
	}
	if code != impl.BkDone {
		return
	}
	told, ok := impl.NetLegs(b, nos)
	if !ok || !slices.Equal(told, legs) {
		t.Errorf("%v of %v tells %v; NetLegs %v, %v", c, b, legs, told, ok)
	}
	checkEvenLegs(t, b, nos)
	if bals, posted := impl.BalsPost(b.Bals, legs, notHolders(b)); posted != impl.PostDone || !slices.Equal(bals, next.Bals) {
		t.Errorf("%v of %v makes %v; its legs posted at once %v, %d", c, b, next.Bals, bals, posted)
	}
	if open := impl.TradesOpen(next, c.args[0], c.args[1]); len(open) != 0 {
		t.Errorf("behind %v of %v %v are open still", c, b, open)
	}
}

// settledInTurn is BookSettle of each, one behind the other, with the gains together; the books as they were, where one has a code or the gains are too large.
func settledInTurn(b impl.Books, nos []int, way int) (impl.Books, int, int) {
	next, gains := b, 0
	for _, no := range nos {
		behind, gain, code := impl.BookSettle(next, no, way)
		if code != impl.BkDone {
			return b, 0, code
		}
		next, gains = behind, gains+gain
	}
	if !impl.AmountOk(gains) {
		return b, 0, impl.BkLarge
	}
	return next, gains, impl.BkDone
}

// allDone are books in which these trades are settled.
func allDone(b impl.Books, nos ...int) impl.Books {
	for _, no := range nos {
		b = inState(b, no, impl.TrDone)
	}
	return b
}

// rightNetCalls are calls whose numbers are all as they should be, of which someBooks and fullBooks refuse some.
func rightNetCalls() []bookCall {
	return []bookCall{
		netCall(1, 1000, impl.First), netCall(1, 1000, impl.Last), netCall(1, 1000, impl.Mean), netCall(1, 1, impl.First), netCall(2, 1000, impl.Last),
		netCall(1000, 1, impl.Mean), netCall(10, 15, impl.First), netCall(1000, 1000, impl.Last),
	}
}

// badNetCalls have one number each that is not as it should be, in calls that someBooks would do or refuse otherwise.
func badNetCalls() []bookCall {
	list := []bookCall{}
	for _, c := range rightNetCalls() {
		for _, x := range wrongNumbers() {
			from, to := c, c
			from.args[0], to.args[1] = x, x
			list = append(list, from, to)
		}
		for _, way := range []int{0, 4, -1, 5, math.MaxInt, math.MinInt} {
			bad := c
			bad.args[2] = way
			list = append(list, bad)
		}
	}
	return append(list, netCall(0, 1001, impl.First), netCall(1001, 0, impl.First), netCall(0, 0, 0), netCall(math.MinInt, math.MaxInt, impl.Mean))
}

func TestP8BadNumbers(t *testing.T) {
	for _, c := range badNetCalls() {
		for _, b := range []impl.Books{{}, someBooks(), farBooks(), fullBooks(), openBooks(), dealBooks()} {
			checkNetBad(t, b, c)
		}
	}
}

func TestP8BadBooks(t *testing.T) {
	for _, b := range wrongBooks() {
		for _, c := range rightNetCalls() {
			checkNetBad(t, b, c)
		}
	}
	for _, b := range booksOfWrongBals() {
		for _, c := range badNetCalls() {
			checkNetBad(t, b, c)
		}
	}
}

func TestP8NetFromNewBooksOn(t *testing.T) {
	b := impl.BooksNew()
	for _, c := range []bookCall{
		accountCall(1, impl.Issuer), accountCall(2, impl.Holder), accountCall(3, impl.Holder), instrCall(7, impl.Paper), instrCall(8, impl.Cash),
		issueCall(1, 2, 7, 10, 200), issueCall(1, 3, 8, 1000, 0), tradeCall(6, 2, 3, 7, 1, 8, 50), tradeCall(5, 3, 2, 7, 4, 8, 150),
	} {
		next, _, code := c.do(b)
		if code != impl.BkDone {
			t.Fatalf("%v of %v: %d", c, b, code)
		}
		b = next
	}
	legs := rows{{2, 7, -3}, {2, 8, 100}, {3, 7, 3}, {3, 8, -100}}.legs()
	want := impl.Books{
		Accounts: b.Accounts, Instrs: b.Instrs, Lot: 3,
		Bals:   rows{{1, 7, -10}, {1, 8, -1000}, {2, 7, 7}, {2, 8, 100}, {3, 7, 3}, {3, 8, 900}}.bals(),
		Lots:   lotRows{{2, 7, 1, 6, 120}, {2, 7, 3, 1, 50}, {3, 7, 2, 3, 113}}.lots(),
		Trades: tradeRows{{5, 3, 2, 7, 4, 8, 150, impl.TrDone}, {6, 2, 3, 7, 1, 8, 50, impl.TrDone}}.trades(),
	}
	checkNet(t, b, netCall(1, 9, impl.First), want, legs, 83, impl.BkDone)
	checkNet(t, b, netCall(5, 6, impl.Last), want, legs, 83, impl.BkDone)
	checkNetRefusal(t, want, netCall(1, 9, impl.First), impl.BkNone)
	checkRefusal(t, want, settleCall(6, impl.First), impl.BkState)
}

// Of one trade netting is settling; the trades beside it stay open.
func TestP8NetOfOneTrade(t *testing.T) {
	for _, c := range sevensTaken() {
		for _, price := range []int{0, c.cost - 1, c.cost, c.cost + 1, 1150} {
			b := richBooks([8]int{7, 2, 3, 7, 1, 5, 1, 1}, [8]int{8, 3, 2, 7, c.qty, 5, price, 1}, [8]int{9, 3, 2, 7, c.qty, 5, price, 1})
			want := withBal(b, 2, 7, 20-c.qty, c.left)
			want = withBal(want, 3, 7, 5+c.qty, lotRows{{3, 7, 3, 5, 60}, {3, 7, 10, c.qty, price}})
			want = inState(lotted(paid(want, 3, 2, 5, price), 10), 8, impl.TrDone)
			legs := rows{{2, 5, price}, {2, 7, -c.qty}, {3, 5, -price}, {3, 7, c.qty}}.legs()
			legs = slices.DeleteFunc(legs, func(l impl.Leg) bool { return l.Amount == 0 })
			checkNet(t, b, netCall(8, 8, c.way), want, legs, price-c.cost, impl.BkDone)
		}
	}
}

// Account 3 buys twelve pieces and sells five back: by each way other lots go, and the gains are others.
func TestP8NetThereAndBack(t *testing.T) {
	b := dealBooks([8]int{4, 3, 2, 7, 12, 5, 100, 1}, [8]int{8, 2, 3, 7, 5, 5, 60, 1})
	legs := rows{{2, 5, 40}, {2, 7, -7}, {3, 5, -40}, {3, 7, 7}}.legs()
	for _, c := range []struct {
		way           int
		seller, buyer lotRows
		gains         int
	}{
		{impl.First, lotRows{{2, 7, 4, 1, 17}, {2, 7, 9, 7, 20}, {2, 7, 11, 5, 60}}, lotRows{{3, 7, 10, 12, 100}}, -34},
		{impl.Last, lotRows{{2, 7, 1, 8, 81}, {2, 7, 11, 5, 60}}, lotRows{{3, 7, 3, 5, 60}, {3, 7, 10, 7, 59}}, 29},
		{impl.Mean, lotRows{{2, 7, 1, 8, 69}, {2, 7, 11, 5, 60}}, lotRows{{3, 7, 3, 12, 113}}, 11},
	} {
		want := withBal(withBal(b, 2, 7, 13, c.seller), 3, 7, 12, c.buyer)
		want = allDone(lotted(paid(want, 3, 2, 5, 40), 11), 4, 8)
		checkNet(t, b, netCall(1, 9, c.way), want, legs, c.gains, impl.BkDone)
		checkNet(t, b, netCall(4, 8, c.way), want, legs, c.gains, impl.BkDone)
	}
	// The loss of the first one is the gain of the second one: 100 for what cost 134, 94 for what cost 60.
	b.Trades[1].Price = 94
	want := withBal(withBal(b, 2, 7, 13, lotRows{{2, 7, 4, 1, 17}, {2, 7, 9, 7, 20}, {2, 7, 11, 5, 94}}), 3, 7, 12, lotRows{{3, 7, 10, 12, 100}})
	want = allDone(lotted(paid(want, 3, 2, 5, 6), 11), 4, 8)
	checkNet(t, b, netCall(1, 9, impl.First), want, rows{{2, 5, 6}, {2, 7, -7}, {3, 5, -6}, {3, 7, 7}}.legs(), 0, impl.BkDone)
}

// Ten pieces go round among three: in the end each one has as many as it had, in other lots.
func TestP8NetRoundAmongThree(t *testing.T) {
	b := dealBooks([8]int{1, 3, 2, 7, 10, 5, 50, 1}, [8]int{2, 6, 3, 7, 10, 6, 30, 1}, [8]int{3, 2, 6, 7, 10, 5, 20, 1})
	legs := rows{{2, 5, 30}, {3, 5, -50}, {3, 6, 30}, {6, 5, 20}, {6, 6, -30}}.legs()
	want := withBal(withBal(b, 2, 7, 20, lotRows{{2, 7, 4, 3, 50}, {2, 7, 9, 7, 20}, {2, 7, 12, 10, 20}}), 3, 7, 5, lotRows{{3, 7, 10, 5, 25}})
	want = paid(paid(paid(want, 3, 2, 5, 50), 6, 3, 6, 30), 2, 6, 5, 20)
	checkNet(t, b, netCall(1, 3, impl.First), allDone(lotted(want, 12), 1, 2, 3), legs, -116, impl.BkDone)
	for _, way := range threeWays() {
		checkNetByWords(t, b, netCall(1, 3, way))
		checkNetByWords(t, b, netCall(1, 2, way))
		checkNetByWords(t, b, netCall(2, 3, way))
	}
}

// There is no leg at all, and the trades are settled all the same.
func TestP8NetOfNothing(t *testing.T) {
	b := dealBooks([8]int{1, 3, 2, 7, 20, 5, 60, 1}, [8]int{2, 2, 3, 7, 20, 5, 60, 1})
	want := withBal(withBal(b, 2, 7, 20, lotRows{{2, 7, 11, 20, 60}}), 3, 7, 5, lotRows{{3, 7, 10, 5, 15}})
	// First takes the lot of five that cost 60, and fifteen of the twenty that cost 60.
	checkNet(t, b, netCall(1, 2, impl.First), allDone(lotted(want, 11), 1, 2), nil, 60-171+60-105, impl.BkDone)
	want = withBal(withBal(b, 2, 7, 20, lotRows{{2, 7, 11, 20, 60}}), 3, 7, 5, lotRows{{3, 7, 3, 5, 60}})
	checkNet(t, b, netCall(1, 2, impl.Last), allDone(lotted(want, 11), 1, 2), nil, 60-171, impl.BkDone)
	want = withBal(withBal(b, 2, 7, 20, lotRows{{2, 7, 11, 20, 60}}), 3, 7, 5, lotRows{{3, 7, 3, 5, 24}})
	checkNet(t, b, netCall(1, 2, impl.Mean), allDone(lotted(want, 11), 1, 2), nil, 60-171+60-96, impl.BkDone)
}

func TestP8NetOfSeveralKinds(t *testing.T) {
	for _, c := range netCases() {
		for _, way := range threeWays() {
			checkNetByWords(t, dealBooks(c.trades...), netCall(1, 1000, way))
			checkNetByWords(t, richBooks(c.trades...), netCall(1, 1000, way))
			next, legs, _, code := impl.BookNet(richBooks(c.trades...), 1, 1000, way)
			if code == impl.BkDone && (!slices.Equal(legs, c.want.legs()) || !impl.BooksOk(next)) {
				t.Errorf("netted %v tells %v; want %v", c.trades, legs, c.want)
			}
		}
	}
}

// They are settled from the lowest number on, in whatever order they were told; another order could not be settled, or could.
func TestP8NetByAscendingNumbers(t *testing.T) {
	for _, c := range []struct {
		first, second [8]int
	}{
		// Who has five pieces sells fifteen, behind buying twelve.
		{[8]int{0, 3, 2, 7, 12, 5, 100, 1}, [8]int{0, 6, 3, 7, 15, 6, 30, 1}},
		// Who has no piece sells what it bought.
		{[8]int{0, 6, 2, 9, 4, 6, 30, 1}, [8]int{0, 3, 6, 9, 4, 5, 150, 1}},
		// Who has 150 pays 200, behind a sale for 60.
		{[8]int{0, 2, 3, 7, 5, 5, 60, 1}, [8]int{0, 3, 2, 9, 4, 5, 200, 1}},
		// The same pieces back, which nobody has ahead of it: nothing is left of both.
		{[8]int{0, 6, 2, 7, 20, 6, 30, 1}, [8]int{0, 2, 6, 7, 20, 6, 30, 1}},
	} {
		for _, way := range threeWays() {
			for _, nos := range [][2]int{{1, 2}, {9, 10}, {99, 100}, {1, 1000}} {
				first, second := c.first, c.second
				first[0], second[0] = nos[0], nos[1]
				b := dealBooks(first, second)
				checkNetByWords(t, b, netCall(1, 1000, way))
				if _, _, _, code := impl.BookNet(b, 1, 1000, way); code != impl.BkDone {
					t.Errorf("netted %v: %d", b.Trades, code)
				}
				first[0], second[0] = nos[1], nos[0]
				checkNetRefusal(t, dealBooks(second, first), netCall(1, 1000, way), impl.BkShort)
				told := dealBooks()
				for _, d := range [][8]int{first, second} {
					told, _ = impl.BookTrade(told, d[0], d[1], d[2], d[3], d[4], d[5], d[6])
				}
				checkNetRefusal(t, told, netCall(1, 1000, way), impl.BkShort)
			}
		}
	}
}

// What is left of them could be posted, but one by one they cannot be settled: they are refused.
func TestP8NetHelpsNobody(t *testing.T) {
	for _, way := range threeWays() {
		for _, trades := range []tradeRows{
			{{1, 3, 2, 7, 5, 5, 200, 1}, {2, 2, 3, 7, 5, 5, 200, 1}},
			{{1, 3, 2, 7, 21, 5, 10, 1}, {2, 2, 3, 7, 21, 5, 10, 1}},
			{{1, 3, 2, 7, 5, 5, 151, 1}, {2, 2, 3, 7, 5, 5, 1, 1}},
			{{1, 3, 6, 9, 1, 5, 10, 1}, {2, 6, 2, 9, 1, 6, 10, 1}},
		} {
			b := dealBooks(trades...)
			legs, ok := impl.NetLegs(b, []int{1, 2})
			if _, posted := impl.BalsPost(b.Bals, legs, notHolders(b)); !ok || posted != impl.PostDone {
				t.Errorf("%v of %v cannot be posted: %d", legs, trades, posted)
			}
			checkNetRefusal(t, b, netCall(1, 2, way), impl.BkShort)
		}
	}
}

func TestP8NetFromTo(t *testing.T) {
	row := func(no int, state int) [8]int { return [8]int{no, 3, 2, 7, 1, 5, 1, state} }
	b := dealBooks(row(1, 1), row(2, 2), row(5, 1), row(6, 1), row(9, 3), row(12, 1), row(1000, 1))
	for _, c := range []struct {
		from, to int
		nos      []int
	}{
		{1, 1000, []int{1, 5, 6, 12, 1000}},
		{1, 999, []int{1, 5, 6, 12}},
		{2, 1000, []int{5, 6, 12, 1000}},
		{2, 999, []int{5, 6, 12}},
		{5, 12, []int{5, 6, 12}},
		{4, 13, []int{5, 6, 12}},
		{6, 11, []int{6}},
		{1, 4, []int{1}},
		{5, 5, []int{5}},
		{1, 1, []int{1}},
		{1000, 1000, []int{1000}},
		{7, 11, nil},
		{2, 4, nil},
		{2, 2, nil},
		{9, 9, nil},
		{13, 999, nil},
		{999, 999, nil},
		{6, 5, nil},
		{5, 1, nil},
		{1000, 1, nil},
		{12, 5, nil},
	} {
		for _, way := range threeWays() {
			n := len(c.nos)
			checkNetByWords(t, b, netCall(c.from, c.to, way))
			if n == 0 {
				checkNetRefusal(t, b, netCall(c.from, c.to, way), impl.BkNone)
				continue
			}
			next, legs, _, code := impl.BookNet(b, c.from, c.to, way)
			if want := (rows{{2, 5, n}, {2, 7, -n}, {3, 5, -n}, {3, 7, n}}.legs()); code != impl.BkDone || !slices.Equal(legs, want) {
				t.Errorf("from %d to %d: %v, %d; want %v", c.from, c.to, legs, code, want)
			}
			if !slices.Equal(next.Trades, allDone(b, c.nos...).Trades) {
				t.Errorf("from %d to %d: %v", c.from, c.to, next.Trades)
			}
		}
	}
	for _, way := range threeWays() {
		checkNetRefusal(t, impl.BooksNew(), netCall(1, 1000, way), impl.BkNone)
		checkNetRefusal(t, dealBooks(), netCall(1, 1000, way), impl.BkNone)
		checkNetRefusal(t, lotted(dealBooks(row(2, 2), row(9, 3)), lastNo), netCall(1, 1000, way), impl.BkNone)
	}
}

func TestP8NetOfAsManyAsThereCanBe(t *testing.T) {
	legs := rows{{2, 5, 155}, {2, 7, -10}, {3, 5, -155}, {3, 7, 10}}.legs()
	b := withBal(withBal(openBooks(), 1, 5, -1500, nil), 3, 5, 1150, nil)
	for _, way := range threeWays() {
		next, told, _, code := impl.BookNet(b, 1, 1000, way)
		if code != impl.BkDone || !slices.Equal(told, legs) || next.Lot != 9+impl.MaxTrades {
			t.Errorf("all trades by way %d: %v, %v, %d", way, next, told, code)
		}
		checkNetByWords(t, b, netCall(1, 1000, way))
		// The last one of them is refused, or the first one.
		last, first := cloneBooks(b), cloneBooks(b)
		last.Trades[impl.MaxTrades-1].Qty = 100
		first.Trades[0].Qty = 100
		checkNetRefusal(t, last, netCall(1, 1000, way), impl.BkShort)
		checkNetRefusal(t, first, netCall(1, 1000, way), impl.BkShort)
		checkNetByWords(t, last, netCall(1, 957, way))
		checkNetByWords(t, first, netCall(2, 1000, way))
	}
}
