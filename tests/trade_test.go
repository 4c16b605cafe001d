package tests

import (
	"math"
	"slices"
	"testing"

	"loop.example/g00110/impl"
)

// dealBooks are someBooks with other trades.
func dealBooks(trades ...[8]int) impl.Books {
	b := someBooks()
	b.Trades = tradeRows(trades).trades()
	return b
}

// inState are books in which the trade of that number is in another state.
func inState(b impl.Books, no int, state int) impl.Books {
	b.Trades = slices.Clone(b.Trades)
	for i := range b.Trades {
		if b.Trades[i].No == no {
			b.Trades[i].State = state
		}
	}
	return b
}

// tradeIn is the trade of that number, found by going through all of them.
func tradeIn(list []impl.Trade, no int) (impl.Trade, bool) {
	for _, d := range list {
		if d.No == no {
			return d, true
		}
	}
	return impl.Trade{}, false
}

func wantTrade(b impl.Books, d impl.Trade) (impl.Books, int, int) {
	buyer, seller := kindIn(b.Accounts, d.Buyer), kindIn(b.Accounts, d.Seller)
	paper, cash := kindIn(b.Instrs, d.Paper), kindIn(b.Instrs, d.Cash)
	if _, known := tradeIn(b.Trades, d.No); known {
		return b, 0, impl.BkKnown
	}
	if buyer == 0 || seller == 0 || paper == 0 || cash == 0 {
		return b, 0, impl.BkNone
	}
	if buyer != impl.Holder || seller != impl.Holder || d.Buyer == d.Seller || paper != impl.Paper || cash != impl.Cash {
		return b, 0, impl.BkKind
	}
	if len(b.Trades) == 30 {
		return b, 0, impl.BkFull
	}
	b.Trades = append(slices.Clone(b.Trades), d)
	slices.SortFunc(b.Trades, func(x impl.Trade, y impl.Trade) int { return x.No - y.No })
	return b, 0, impl.BkDone
}

func wantCancel(b impl.Books, no int) (impl.Books, int, int) {
	d, found := tradeIn(b.Trades, no)
	if !found {
		return b, 0, impl.BkNone
	}
	if d.State != impl.TrOpen {
		return b, 0, impl.BkState
	}
	return inState(b, no, impl.TrGone), 0, impl.BkDone
}

func wantTradesOpen(b impl.Books, from int, to int) []int {
	list := []int{}
	if !booksRight(b) {
		return list
	}
	for no := 1; no <= 1000; no++ {
		if d, found := tradeIn(b.Trades, no); found && d.State == 1 && from <= no && no <= to {
			list = append(list, no)
		}
	}
	return list
}

func checkTradeOf(t *testing.T, b impl.Books, no int, want impl.Trade, wantOk bool) {
	t.Helper()
	if got, ok := impl.TradeOf(b, no); got != want || ok != wantOk {
		t.Errorf("TradeOf(%v, %d) = %v, %v; want %v, %v", b, no, got, ok, want, wantOk)
	}
}

func checkTradesOpen(t *testing.T, b impl.Books, from int, to int, want []int) {
	t.Helper()
	if got := impl.TradesOpen(b, from, to); !slices.Equal(got, want) {
		t.Errorf("TradesOpen(%v, %d, %d) = %v; want %v", b, from, to, got, want)
	}
}

// rightTradeCalls are calls whose numbers are all as they should be, of which someBooks and fullBooks refuse some.
func rightTradeCalls() []bookCall {
	return []bookCall{
		tradeCall(2, 2, 3, 7, 4, 5, 60), tradeCall(999, 6, 2, 9, top, 6, top), tradeCall(1, 2, 3, 7, 1, 5, 0), tradeCall(4, 2, 7, 7, 1, 5, 0),
		tradeCall(4, 1, 3, 7, 1, 5, 0), tradeCall(4, 3, 3, 7, 1, 5, 0), tradeCall(4, 2, 3, 5, 1, 7, 0), tradeCall(9, 1, 2, 1, 1, 7, 0),
		cancelCall(1), cancelCall(3), cancelCall(1000), cancelCall(2), cancelCall(10),
		settleCall(1, impl.First), settleCall(1, impl.Last), settleCall(1, impl.Mean), settleCall(3, impl.First), settleCall(1000, impl.Mean),
		settleCall(2, impl.Last), settleCall(10, impl.First), settleCall(13, impl.Mean),
	}
}

// badTradeCalls have one number each that is not as it should be, in calls that someBooks would do or refuse otherwise.
func badTradeCalls() []bookCall {
	list := []bookCall{}
	with := func(c bookCall, place int, values []int) {
		for _, x := range values {
			bad := c
			bad.args[place] = x
			list = append(list, bad)
		}
	}
	for _, c := range rightTradeCalls() {
		with(c, 0, wrongNumbers())
		switch c.what {
		case "trade":
			for _, place := range []int{1, 2, 3, 5} {
				with(c, place, wrongNumbers())
			}
			with(c, 4, append(wrongAmounts(), 0, -1, -top))
			with(c, 6, append(wrongAmounts(), -1, -top))
		case "settle":
			with(c, 1, []int{0, 4, -1, 5, math.MaxInt, math.MinInt})
		}
	}
	return list
}

func TestP7BadNumbers(t *testing.T) {
	for _, c := range badTradeCalls() {
		for _, b := range []impl.Books{{}, someBooks(), farBooks(), fullBooks()} {
			checkBad(t, b, c)
		}
	}
}

func TestP7BadBooks(t *testing.T) {
	for _, b := range wrongBooks() {
		for _, c := range rightTradeCalls() {
			checkBad(t, b, c)
		}
		for _, no := range []int{1, 3, 5, 9, 1000} {
			checkTradeOf(t, b, no, impl.Trade{}, false)
		}
		checkTradesOpen(t, b, 1, 1000, nil)
	}
	for _, b := range booksOfWrongBals() {
		for _, c := range badTradeCalls() {
			checkBad(t, b, c)
		}
	}
}

func TestP7TradeFromNewBooksOn(t *testing.T) {
	b := impl.BooksNew()
	for _, c := range []bookCall{
		accountCall(1, impl.Issuer), accountCall(2, impl.Holder), accountCall(3, impl.Holder), instrCall(7, impl.Paper), instrCall(8, impl.Cash),
		issueCall(1, 2, 7, 10, 200), issueCall(1, 3, 8, 1000, 0), tradeCall(5, 3, 2, 7, 4, 8, 150), tradeCall(6, 3, 2, 7, 4, 8, 900),
	} {
		next, _, code := c.do(b)
		if code != impl.BkDone {
			t.Fatalf("%v of %v: %d", c, b, code)
		}
		b = next
	}
	checkTradesOpen(t, b, 1, 9, []int{5, 6})
	want := impl.Books{
		Accounts: b.Accounts, Instrs: b.Instrs, Lot: 2,
		Bals:   rows{{1, 7, -10}, {1, 8, -1000}, {2, 7, 6}, {2, 8, 150}, {3, 7, 4}, {3, 8, 850}}.bals(),
		Lots:   lotRows{{2, 7, 1, 6, 120}, {3, 7, 2, 4, 150}}.lots(),
		Trades: tradeRows{{5, 3, 2, 7, 4, 8, 150, impl.TrDone}, {6, 3, 2, 7, 4, 8, 900, impl.TrOpen}}.trades(),
	}
	checkCall(t, b, settleCall(5, impl.First), want, 70, impl.BkDone)
	checkTradesOpen(t, want, 1, 9, []int{6})
	checkRefusal(t, want, settleCall(5, impl.First), impl.BkState)
	checkRefusal(t, want, settleCall(6, impl.First), impl.BkShort)
	gone := inState(want, 6, impl.TrGone)
	checkCall(t, want, cancelCall(6), gone, 0, impl.BkDone)
	checkTradesOpen(t, gone, 1, 9, nil)
	checkRefusal(t, gone, cancelCall(7), impl.BkNone)
}

// A trade that is told stands at its place, in TrOpen; nothing is moved, whoever has too little for it.
func TestP7TradeIsTold(t *testing.T) {
	first, second := [8]int{4, 2, 3, 7, 5, 5, 60, impl.TrDone}, [8]int{6, 3, 2, 9, 1, 6, 7, impl.TrGone}
	for _, c := range []struct {
		row  [8]int
		want impl.Books
	}{
		{[8]int{5, 2, 3, 7, 4, 5, 60, 1}, dealBooks(first, [8]int{5, 2, 3, 7, 4, 5, 60, 1}, second)},
		{[8]int{1, 2, 3, 7, 1, 5, 0, 1}, dealBooks([8]int{1, 2, 3, 7, 1, 5, 0, 1}, first, second)},
		{[8]int{1000, 3, 2, 9, top, 6, top, 1}, dealBooks(first, second, [8]int{1000, 3, 2, 9, top, 6, top, 1})},
		{[8]int{7, 6, 2, 7, 20, 6, 30, 1}, dealBooks(first, second, [8]int{7, 6, 2, 7, 20, 6, 30, 1})},
		{[8]int{3, 2, 6, 9, 99, 5, 301, 1}, dealBooks([8]int{3, 2, 6, 9, 99, 5, 301, 1}, first, second)},
		// The same once more, under another number.
		{[8]int{8, 2, 3, 7, 5, 5, 60, 1}, dealBooks(first, second, [8]int{8, 2, 3, 7, 5, 5, 60, 1})},
	} {
		r := c.row
		checkCall(t, dealBooks(first, second), tradeCall(r[0], r[1], r[2], r[3], r[4], r[5], r[6]), c.want, 0, impl.BkDone)
		checkTradeOf(t, c.want, r[0], tradeOf(r), true)
		checkTradeOf(t, c.want, 4, tradeOf(first), true)
		checkTradesOpen(t, c.want, 1, 1000, []int{r[0]})
		alone := dealBooks()
		checkCall(t, alone, tradeCall(r[0], r[1], r[2], r[3], r[4], r[5], r[6]), dealBooks(r), 0, impl.BkDone)
	}
	// Neither lots that are full nor the last lot number keep a trade from being told.
	last := farBooks()
	last.Lot = lastNo
	want := last
	want.Trades = append(want.Trades[:1:1], tradeOf([8]int{2, 4, 1, 1, top, 1000, top, 1}), want.Trades[1])
	checkCall(t, last, tradeCall(2, 4, 1, 1, top, 1000, top), want, 0, impl.BkDone)
}

// Whatever its state is and whatever else is wrong, a number that is there is known.
func TestP7TradeOfAKnownNumber(t *testing.T) {
	for _, c := range []bookCall{
		tradeCall(1, 2, 3, 7, 5, 5, 60), tradeCall(3, 2, 3, 7, 5, 5, 60), tradeCall(1000, 2, 3, 7, 5, 5, 60), tradeCall(1, 6, 2, 9, 1, 6, 0),
		tradeCall(1, 7, 3, 7, 5, 5, 60), tradeCall(3, 2, 9, 7, 5, 5, 60), tradeCall(1, 2, 3, 8, 5, 5, 60), tradeCall(1000, 2, 3, 7, 5, 8, 60),
		tradeCall(3, 1, 3, 7, 5, 5, 60), tradeCall(1, 2, 2, 7, 5, 5, 60), tradeCall(1, 2, 3, 5, 5, 7, 60),
	} {
		checkRefusal(t, someBooks(), c, impl.BkKnown)
	}
	for no := 10; no < 10+impl.MaxTrades; no++ {
		checkRefusal(t, fullBooks(), tradeCall(no, 1, 2, 1, 1, 7, 1), impl.BkKnown)
		checkRefusal(t, fullBooks(), tradeCall(no, 21, 2, 1, 1, 1, 1), impl.BkKnown)
	}
}

func TestP7TradeOfWhatIsNotThere(t *testing.T) {
	for _, c := range []bookCall{
		tradeCall(5, 7, 3, 7, 5, 5, 60), tradeCall(5, 2, 7, 7, 5, 5, 60), tradeCall(5, 2, 3, 8, 5, 5, 60), tradeCall(5, 2, 3, 7, 5, 8, 60),
		tradeCall(5, 1000, 3, 7, 5, 5, 60), tradeCall(5, 2, 1000, 7, 5, 5, 60), tradeCall(5, 2, 3, 1000, 5, 5, 60), tradeCall(5, 2, 3, 7, 5, 1, 60),
		// What is of a wrong kind, or one, is told only where all are there.
		tradeCall(5, 7, 7, 7, 5, 5, 60), tradeCall(5, 2, 2, 8, 5, 5, 60), tradeCall(5, 1, 7, 7, 5, 5, 60), tradeCall(5, 7, 1, 7, 5, 5, 60),
		tradeCall(5, 2, 3, 5, 5, 8, 60), tradeCall(5, 2, 3, 8, 5, 7, 60), tradeCall(5, 1, 3, 7, 5, 8, 60),
	} {
		checkRefusal(t, someBooks(), c, impl.BkNone)
		checkRefusal(t, impl.BooksNew(), c, impl.BkNone)
	}
	for _, c := range []bookCall{tradeCall(9, 21, 2, 1, 1, 7, 1), tradeCall(40, 1, 21, 1, 1, 7, 1), tradeCall(1, 1, 2, 9, 1, 7, 1), tradeCall(1000, 1, 1, 1, 1, 9, 1)} {
		checkRefusal(t, fullBooks(), c, impl.BkNone)
	}
}

func TestP7TradeOfWrongKinds(t *testing.T) {
	for _, c := range []bookCall{
		tradeCall(5, 1, 3, 7, 5, 5, 60), tradeCall(5, 4, 3, 7, 5, 5, 60), tradeCall(5, 5, 3, 7, 5, 5, 60), tradeCall(5, 2, 8, 7, 5, 5, 60),
		tradeCall(5, 2, 4, 7, 5, 5, 60), tradeCall(5, 2, 5, 7, 5, 5, 60), tradeCall(5, 1, 4, 7, 5, 5, 60), tradeCall(5, 2, 2, 7, 5, 5, 60),
		tradeCall(5, 6, 6, 9, 1, 6, 0), tradeCall(5, 1, 1, 7, 5, 5, 60), tradeCall(5, 2, 3, 5, 5, 5, 60), tradeCall(5, 2, 3, 5, 5, 6, 60),
		tradeCall(5, 2, 3, 7, 5, 7, 60), tradeCall(5, 2, 3, 7, 5, 9, 60), tradeCall(5, 2, 3, 5, 5, 7, 60), tradeCall(5, 2, 2, 5, 5, 7, 60),
	} {
		checkRefusal(t, someBooks(), c, impl.BkKind)
	}
	for _, c := range []bookCall{tradeCall(9, 20, 2, 1, 1, 7, 1), tradeCall(40, 1, 20, 1, 1, 7, 1), tradeCall(1, 1, 1, 1, 1, 7, 1), tradeCall(1, 1, 2, 7, 1, 7, 1), tradeCall(1, 1, 2, 1, 1, 6, 1)} {
		checkRefusal(t, fullBooks(), c, impl.BkKind)
	}
}

// However they are told, at most MaxTrades are there, and one that is settled or cancelled leaves no room.
func TestP7FullTrades(t *testing.T) {
	b := dealBooks()
	for i := range impl.MaxTrades {
		no := 1 + 37*i%impl.MaxTrades*33
		next, code := impl.BookTrade(b, no, 2, 3, 7, 1, 5, 1)
		if code != impl.BkDone || len(next.Trades) != i+1 || !impl.BooksOk(next) {
			t.Fatalf("trade %d: %v, %d", i, next, code)
		}
		checkTradeOf(t, next, no, tradeOf([8]int{no, 2, 3, 7, 1, 5, 1, impl.TrOpen}), true)
		b = next
	}
	if list := impl.TradesOpen(b, 1, impl.MaxNo); len(list) != impl.MaxTrades || list[0] != 1 || list[1] != 34 || list[29] != 958 {
		t.Error("trades that are told", list)
	}
	for _, no := range []int{2, 500, 1000} {
		checkRefusal(t, b, tradeCall(no, 2, 3, 7, 1, 5, 1), impl.BkFull)
	}
	checkRefusal(t, b, tradeCall(34, 2, 3, 7, 1, 5, 1), impl.BkKnown)
	b, _ = impl.BookCancel(b, 1)
	b, _, _ = impl.BookSettle(b, 34, impl.First)
	checkTradeOf(t, b, 34, tradeOf([8]int{34, 2, 3, 7, 1, 5, 1, impl.TrDone}), true)
	for _, no := range []int{2, 1000} {
		checkRefusal(t, b, tradeCall(no, 2, 3, 7, 1, 5, 1), impl.BkFull)
	}
	checkRefusal(t, fullBooks(), tradeCall(9, 1, 2, 1, 1, 7, 1), impl.BkFull)
	checkRefusal(t, fullBooks(), tradeCall(40, 1, 2, 6, top, 8, top), impl.BkFull)
}

// A trade that is cancelled is in TrGone, and nothing else is turned.
func TestP7Cancel(t *testing.T) {
	b := dealBooks([8]int{1, 2, 3, 7, 5, 5, 60, 1}, [8]int{2, 2, 3, 7, 5, 5, 60, 1}, [8]int{5, 3, 2, 9, 1, 6, 0, 2}, [8]int{7, 3, 2, 9, 1, 6, 0, 3}, [8]int{1000, 6, 2, 7, top, 5, top, 1})
	for _, no := range []int{1, 2, 1000} {
		gone := inState(b, no, impl.TrGone)
		checkCall(t, b, cancelCall(no), gone, 0, impl.BkDone)
		checkRefusal(t, gone, cancelCall(no), impl.BkState)
		for _, way := range threeWays() {
			checkRefusal(t, gone, settleCall(no, way), impl.BkState)
		}
		checkRefusal(t, gone, tradeCall(no, 2, 3, 7, 1, 5, 0), impl.BkKnown)
	}
	for _, no := range []int{3, 4, 6, 8, 999} {
		checkRefusal(t, b, cancelCall(no), impl.BkNone)
		checkRefusal(t, impl.BooksNew(), cancelCall(no), impl.BkNone)
	}
	for _, no := range []int{5, 7} {
		checkRefusal(t, b, cancelCall(no), impl.BkState)
	}
	for no := 10; no < 10+impl.MaxTrades; no++ {
		checkCallByWords(t, fullBooks(), cancelCall(no))
	}
}

// What was told and then cancelled has moved nothing on its way.
func TestP7TellAndCancelMoveNothing(t *testing.T) {
	for _, given := range rightBooks() {
		for _, c := range []bookCall{tradeCall(2, 2, 3, 7, 4, 5, 60), tradeCall(999, 4, 1, 1, top, 1000, top), tradeCall(500, 1, 1000, 1, 1, 1000, 0)} {
			told, _, code := c.do(given)
			if code != impl.BkDone {
				continue
			}
			gone, code := impl.BookCancel(told, c.args[0])
			if code != impl.BkDone || len(gone.Trades) != len(given.Trades)+1 {
				t.Errorf("%v of %v, cancelled: %v, %d", c, given, gone, code)
			}
			told.Trades, gone.Trades = given.Trades, given.Trades
			if !sameBooks(told, given) || !sameBooks(gone, given) {
				t.Errorf("%v of %v moves something: %v, and cancelled %v", c, given, told, gone)
			}
		}
	}
}

func TestP7TradeOf(t *testing.T) {
	for _, d := range someBooks().Trades {
		checkTradeOf(t, someBooks(), d.No, d, true)
	}
	for _, d := range farBooks().Trades {
		checkTradeOf(t, farBooks(), d.No, d, true)
	}
	for _, b := range rightBooks() {
		for no := -3; no <= impl.MaxNo+3; no++ {
			want, found := tradeIn(b.Trades, no)
			checkTradeOf(t, b, no, want, found)
		}
		for _, no := range []int{math.MinInt, math.MaxInt, top, -top} {
			checkTradeOf(t, b, no, impl.Trade{}, false)
		}
	}
}

func TestP7TradesOpen(t *testing.T) {
	row := func(no int, state int) [8]int { return [8]int{no, 2, 3, 7, 1, 5, 1, state} }
	b := dealBooks(row(1, 1), row(2, 2), row(5, 1), row(6, 1), row(9, 3), row(12, 1), row(1000, 1))
	for _, c := range []struct {
		from, to int
		want     []int
	}{
		{1, 1000, []int{1, 5, 6, 12, 1000}},
		{math.MinInt, math.MaxInt, []int{1, 5, 6, 12, 1000}},
		{0, 1001, []int{1, 5, 6, 12, 1000}},
		{-5, 5, []int{1, 5}},
		{2, 999, []int{5, 6, 12}},
		{5, 6, []int{5, 6}},
		{5, 5, []int{5}},
		{6, 11, []int{6}},
		{7, 11, nil},
		{2, 2, nil},
		{9, 9, nil},
		{1000, 1000, []int{1000}},
		{1000, math.MaxInt, []int{1000}},
		{math.MinInt, 1, []int{1}},
		{1001, math.MaxInt, nil},
		{math.MinInt, 0, nil},
		{6, 5, nil},
		{1000, 1, nil},
		{math.MaxInt, math.MinInt, nil},
	} {
		checkTradesOpen(t, b, c.from, c.to, c.want)
		checkTradesOpen(t, impl.BooksNew(), c.from, c.to, nil)
	}
	ends := []int{math.MinInt, -1, 0, 1, 2, 3, 10, 11, 13, 37, 39, 40, 999, 1000, 1001, math.MaxInt}
	for _, b := range append(rightBooks(), wrongBooks()[:40]...) {
		for _, from := range ends {
			for _, to := range ends {
				checkTradesOpen(t, b, from, to, wantTradesOpen(b, from, to))
			}
		}
	}
}

func TestP7TradesByTheWords(t *testing.T) {
	for _, b := range []impl.Books{{}, someBooks(), farBooks(), fullBooks()} {
		for _, no := range []int{0, 1, 2, 10, 1000} {
			for _, buyer := range []int{1, 2, 4, 1000} {
				for _, seller := range []int{1, 2, 3, 7, 1001} {
					for _, paper := range []int{1, 5, 7, 8} {
						for _, cash := range []int{5, 7, 8, 1000} {
							for _, amounts := range [][2]int{{1, 0}, {top, top}, {0, 1}, {1, top + 1}} {
								checkCallByWords(t, b, tradeCall(no, buyer, seller, paper, amounts[0], cash, amounts[1]))
							}
						}
					}
				}
			}
		}
	}
}
