package tests

import (
	"testing"

	"loop.example/g00110/impl"
)

// amidTrades are two trades of one piece that can be settled, one that is tried, and two more; account 3 pays 1 for each piece.
func amidTrades(tried [8]int) tradeRows {
	tried[0] = 5
	return tradeRows{{1, 3, 2, 7, 1, 5, 1, 1}, {2, 3, 2, 7, 1, 5, 1, 1}, tried, {7, 3, 2, 7, 1, 5, 1, 1}, {9, 3, 2, 7, 1, 5, 1, 1}}
}

// checkRefusedAmid wants the trade with number 5 alone to be refused with a code, behind trades that could be settled and ahead of such ones.
func checkRefusedAmid(t *testing.T, b impl.Books, code int) {
	t.Helper()
	for _, way := range threeWays() {
		for _, ends := range [][2]int{{1, 1000}, {1, 5}, {5, 5}, {5, 9}, {2, 7}} {
			if ends[0] <= 2 {
				checkNetRefusal(t, b, netCall(ends[0], ends[1], way), code)
			} else {
				checkNetByWords(t, b, netCall(ends[0], ends[1], way))
			}
		}
		ahead, _, _, done := impl.BookNet(b, 1, 4, way)
		if _, _, tried := impl.BookSettle(ahead, 5, way); done != impl.BkDone || tried != code {
			t.Errorf("the trades ahead of it in %v: %d, itself %d; want %d", b, done, tried, code)
		}
		checkNetByWords(t, b, netCall(1, 4, way))
		checkNetByWords(t, b, netCall(6, 9, way))
	}
}

func checkDoneAmid(t *testing.T, b impl.Books) {
	t.Helper()
	for _, way := range threeWays() {
		checkNetByWords(t, b, netCall(1, 1000, way))
		if next, _, _, code := impl.BookNet(b, 1, 1000, way); code != impl.BkDone || len(impl.TradesOpen(next, 1, 1000)) != 0 {
			t.Errorf("netted %v: %v, %d", b, next, code)
		}
	}
}

// Account 2 has 18 pieces behind the first two trades, account 3 has 148 of the cash, and needs 2 for the last two trades.
func TestP8NetThatIsShort(t *testing.T) {
	checkDoneAmid(t, dealBooks(amidTrades([8]int{0, 3, 2, 7, 16, 5, 146, 1})...))
	for _, tried := range [][8]int{{0, 3, 2, 7, 19, 5, 0, 1}, {0, 3, 2, 7, 1, 5, 149, 1}, {0, 3, 2, 9, 5, 5, 0, 1}, {0, 6, 2, 7, 1, 6, 31, 1}, {0, 6, 3, 7, 8, 6, 1, 1}, {0, 2, 6, 7, 1, 5, 1, 1}} {
		checkRefusedAmid(t, dealBooks(amidTrades(tried)...), impl.BkShort)
	}
	// It is the last two that have too little.
	for _, way := range threeWays() {
		for _, tried := range [][8]int{{0, 3, 2, 7, 17, 5, 146, 1}, {0, 3, 2, 7, 16, 5, 147, 1}, {0, 3, 2, 7, 18, 5, 148, 1}} {
			b := dealBooks(amidTrades(tried)...)
			checkNetRefusal(t, b, netCall(1, 1000, way), impl.BkShort)
			checkNetByWords(t, b, netCall(1, 5, way))
		}
	}
}

// tallBooks have a holder 2 whose cash 5 is so much below all that can be, which account 4 lacks.
func tallBooks(below int, trades ...[8]int) impl.Books {
	b := withBal(dealBooks(trades...), 2, 5, top-below, nil)
	return withBal(b, 4, 5, 350-(top-below), nil)
}

func TestP8NetThatIsTooLarge(t *testing.T) {
	checkDoneAmid(t, tallBooks(9, amidTrades([8]int{0, 3, 2, 7, 1, 5, 5, 1})...))
	for _, price := range []int{8, 9, 148, 149, top} {
		// BookSettle names what is too large ahead of what is short.
		checkRefusedAmid(t, tallBooks(9, amidTrades([8]int{0, 3, 2, 7, 1, 5, price, 1})...), impl.BkLarge)
		checkRefusedAmid(t, tallBooks(9, amidTrades([8]int{0, 3, 2, 7, 19, 5, price, 1})...), impl.BkLarge)
	}
	for _, way := range threeWays() {
		// It is the last one that is too large.
		b := tallBooks(9, amidTrades([8]int{0, 3, 2, 7, 1, 5, 6, 1})...)
		checkNetRefusal(t, b, netCall(1, 9, way), impl.BkLarge)
		checkNetByWords(t, b, netCall(1, 8, way))
		// What is left of both is nothing, but the first one alone is too large; the other way round it is not.
		back := tallBooks(9, [8]int{1, 3, 2, 7, 1, 5, 10, 1}, [8]int{2, 2, 3, 7, 1, 5, 10, 1})
		checkNetRefusal(t, back, netCall(1, 9, way), impl.BkLarge)
		there := tallBooks(9, [8]int{1, 2, 3, 7, 1, 5, 10, 1}, [8]int{2, 3, 2, 7, 1, 5, 10, 1})
		checkNetByWords(t, there, netCall(1, 9, way))
		if _, legs, _, code := impl.BookNet(there, 1, 9, way); code != impl.BkDone || len(legs) != 0 {
			t.Errorf("netted %v: %v, %d", there, legs, code)
		}
	}
}

// A part of a lot is taken where lots are full; lots that are taken whole leave room.
func TestP8NetWhereLotsAreFull(t *testing.T) {
	whole := func(no int, buyer int, seller int, paper int) [8]int {
		return [8]int{no, buyer, seller, paper, 10, 7, 1, 1}
	}
	full := fullBooks()
	full.Trades = tradeRows{whole(1, 18, 19, 6), whole(2, 17, 16, 5), {5, 15, 14, 4, 9, 7, 1, 1}, whole(7, 13, 12, 3), whole(9, 11, 10, 2)}.trades()
	checkRefusedAmid(t, full, impl.BkFull)
	full.Trades[2].Qty = 10
	checkDoneAmid(t, full)
	// Behind all numbers of lots there is none.
	checkRefusedAmid(t, lotted(dealBooks(amidTrades([8]int{0, 3, 2, 7, 1, 5, 1, 1})...), lastNo-2), impl.BkFull)
	checkDoneAmid(t, lotted(dealBooks(amidTrades([8]int{0, 3, 2, 7, 1, 5, 1, 1})...), lastNo-5))
	for _, way := range threeWays() {
		b := lotted(dealBooks(amidTrades([8]int{0, 3, 2, 7, 1, 5, 1, 1})...), lastNo-4)
		checkNetRefusal(t, b, netCall(1, 9, way), impl.BkFull)
		checkNetByWords(t, b, netCall(1, 7, way))
	}
	// All that the buyer's pieces cost together would be no amount.
	for _, price := range []int{4, 5, 100} {
		dear := withBal(dealBooks(amidTrades([8]int{0, 3, 2, 7, 1, 5, price, 1})...), 3, 7, 5, lotRows{{3, 7, 3, 4, top - 5}, {3, 7, 5, 1, 0}})
		checkRefusedAmid(t, dear, impl.BkFull)
	}
	dear := withBal(dealBooks(amidTrades([8]int{0, 3, 2, 7, 1, 5, 1, 1})...), 3, 7, 5, lotRows{{3, 7, 3, 4, top - 5}, {3, 7, 5, 1, 0}})
	checkDoneAmid(t, dear)
}

// Of several trades that are refused the one with the lowest number counts, whatever its code is.
func TestP8NetOfTheFirstCode(t *testing.T) {
	refused := []struct {
		row  [8]int
		code int
	}{
		{[8]int{0, 3, 2, 9, 5, 5, 0, 1}, impl.BkShort},
		{[8]int{0, 3, 2, 7, 1, 5, 10, 1}, impl.BkLarge},
		{[8]int{0, 6, 2, 7, 1, 6, 0, 1}, impl.BkFull},
	}
	for _, way := range threeWays() {
		for _, first := range refused {
			for _, second := range refused {
				first.row[0], second.row[0] = 3, 4
				// One lot can be opened still, by a trade ahead of both.
				b := lotted(tallBooks(9, [8]int{2, 6, 2, 7, 1, 6, 0, 1}, first.row, second.row), lastNo-1)
				checkNetRefusal(t, b, netCall(1, 9, way), first.code)
				checkNetRefusal(t, b, netCall(2, 3, way), first.code)
			}
		}
		// No open trade is there: what would be refused does not count; what is bad counts ahead of it.
		b := tallBooks(9, [8]int{2, 3, 2, 9, 5, 5, 0, 1}, [8]int{5, 3, 2, 7, 1, 5, 10, 2}, [8]int{6, 3, 2, 7, 1, 5, 10, 3})
		checkNetRefusal(t, b, netCall(3, 9, way), impl.BkNone)
		checkNetRefusal(t, b, netCall(9, 1, way), impl.BkNone)
		checkNetRefusal(t, b, netCall(1, 9, way), impl.BkShort)
		checkNetBad(t, b, netCall(3, 1001, way))
		checkNetBad(t, b, netCall(0, 9, way))
		checkNetBad(t, b, netCall(9, 0, way))
		checkNetBad(t, b, netCall(3, 9, 3+way))
	}
}

// gainBooks have a holder 2 with all cash that can be and a holder 3 with none; both have papers in lots with these costs, a piece each.
func gainBooks(two []int, three []int, trades ...[8]int) impl.Books {
	b := impl.Books{Accounts: chartOf(1, impl.Issuer, 2, impl.Holder, 3, impl.Holder), Instrs: instrsOf(5, impl.Cash, 7, impl.Paper, 8, impl.Paper, 9, impl.Paper)}
	b.Bals = rows{{1, 5, -top}, {2, 5, top}}.bals()
	b.Trades = tradeRows(trades).trades()
	for i, cost := range two {
		b = withBal(b, 2, 7+i, 1, lotRows{{2, 7 + i, 1 + i, 1, cost}})
	}
	for i, cost := range three {
		b = withBal(b, 3, 7+i, 1, lotRows{{3, 7 + i, 4 + i, 1, cost}})
	}
	for instr := 7; instr <= 9; instr++ {
		b.Bals = balWith(b.Bals, 1, instr, -amountIn(b.Bals, 2, instr)-amountIn(b.Bals, 3, instr))
	}
	b.Lot = 6
	return b
}

// sellThree and sellTwo are trades in which account 3, or account 2, sells its piece to the other one.
func sellThree(no int, paper int, price int) [8]int { return [8]int{no, 2, 3, paper, 1, 5, price, 1} }

func sellTwo(no int, paper int, price int) [8]int { return [8]int{no, 3, 2, paper, 1, 5, price, 1} }

// Gains and losses that are just an amount together, and one more; what the first ones come to does not count.
func TestP8NetOfFarGains(t *testing.T) {
	for _, c := range []struct {
		two, three []int
		trades     tradeRows
		gains      int
		code       int
	}{
		{nil, []int{0}, tradeRows{sellThree(1, 7, top)}, top, impl.BkDone},
		{nil, []int{0, 0}, tradeRows{sellThree(1, 7, top-1), sellThree(2, 8, 1)}, top, impl.BkDone},
		{[]int{0, 0}, []int{0}, tradeRows{sellThree(1, 7, top), sellTwo(2, 8, 0)}, top, impl.BkDone},
		{[]int{0, 0}, []int{0}, tradeRows{sellThree(1, 7, top), sellTwo(2, 8, 1)}, 0, impl.BkLarge},
		{[]int{0, 0}, []int{0}, tradeRows{sellThree(1, 7, top), sellTwo(2, 8, top)}, 0, impl.BkLarge},
		{[]int{0, 1}, []int{0}, tradeRows{sellThree(1, 7, top), sellTwo(2, 8, 1)}, top, impl.BkDone},
		{[]int{0, 1}, []int{0}, tradeRows{sellThree(1, 7, top), sellTwo(2, 8, 2)}, 0, impl.BkLarge},
		{nil, []int{top}, tradeRows{sellThree(1, 7, 0)}, -top, impl.BkDone},
		{nil, []int{top, 1}, tradeRows{sellThree(1, 7, 0), sellThree(2, 8, 0)}, 0, impl.BkLarge},
		{nil, []int{top, 1}, tradeRows{sellThree(1, 7, 0), sellThree(2, 8, 1)}, -top, impl.BkDone},
		{nil, []int{top, top}, tradeRows{sellThree(1, 7, 1), sellThree(2, 8, 0)}, 0, impl.BkLarge},
		{nil, []int{top, top}, tradeRows{sellThree(1, 7, top), sellThree(2, 8, 0)}, -top, impl.BkDone},
		{[]int{0, 0, top}, []int{0}, tradeRows{sellThree(1, 7, top), sellTwo(2, 8, top), sellTwo(3, 9, 0)}, top, impl.BkDone},
		{[]int{0, 0, top - 1}, []int{0}, tradeRows{sellThree(1, 7, top), sellTwo(2, 8, top), sellTwo(3, 9, 0)}, 0, impl.BkLarge},
		{nil, []int{top, 5, 0}, tradeRows{sellThree(1, 7, 0), sellThree(2, 8, 0), sellThree(3, 9, 5)}, -top, impl.BkDone},
		{nil, []int{top, 5, 0}, tradeRows{sellThree(1, 7, 0), sellThree(2, 8, 0), sellThree(3, 9, 4)}, 0, impl.BkLarge},
		{nil, []int{top, top, 0}, tradeRows{sellThree(1, 7, 0), sellThree(2, 8, 0), sellThree(3, 9, top)}, -top, impl.BkDone},
		{nil, []int{top, 0}, tradeRows{sellThree(1, 7, 0), sellThree(2, 8, top)}, 0, impl.BkDone},
		// A trade that is refused counts ahead of the gains, though it comes behind them.
		{[]int{0, 0}, []int{0}, tradeRows{sellThree(1, 7, top), sellTwo(2, 8, 1), sellTwo(3, 9, 1)}, 0, impl.BkShort},
		{[]int{0, 0}, []int{0}, tradeRows{sellThree(1, 7, top), sellTwo(2, 8, top), sellThree(3, 7, 1)}, 0, impl.BkShort},
	} {
		b := gainBooks(c.two, c.three, c.trades...)
		for _, way := range threeWays() {
			checkNetByWords(t, b, netCall(1, 9, way))
			if _, _, gains, code := impl.BookNet(b, 1, 9, way); gains != c.gains || code != c.code {
				t.Errorf("netted %v by way %d: %d, %d; want %d, %d", b, way, gains, code, c.gains, c.code)
			}
			if c.code == impl.BkLarge {
				// The legs are all right: it is the gains that are too large, and each trade alone can be settled.
				checkNetLegsByWords(t, b, allNos(b))
				checkNetByWords(t, b, netCall(1, len(c.trades)-1, way))
			}
			full := lotted(b, lastNo-len(c.trades)+1)
			if c.code == impl.BkLarge {
				checkNetRefusal(t, full, netCall(1, 9, way), impl.BkFull)
			}
		}
	}
}
