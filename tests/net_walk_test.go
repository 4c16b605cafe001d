package tests

import (
	"math"
	"slices"
	"testing"

	"loop.example/g00110/impl"
)

// diceNetCall is a call of netting, now and then over all numbers, or of what it needs.
func diceNetCall(b impl.Books, roll func(n int) int) bookCall {
	if roll(9) > 0 {
		c := diceTradeCall(b, roll)
		// What is settled or cancelled by itself leaves nothing to net.
		if c.what == "settle" || c.what == "cancel" {
			return diceTradeCall(b, roll)
		}
		return c
	}
	from := roll(42)
	return netCall(from, []int{from, from + roll(4), from + roll(12), 40, roll(42)}[roll(5)], roll(4)+roll(2))
}

// Whatever is commanded from new books on, what is netted is what the words ask for, and what BookSettle makes of it one by one.
func TestP8Walks(t *testing.T) {
	codes := map[int]int{}
	several, signs := 0, [3]int{}
	for seed := range 150 {
		roll := dice(2000 + seed)
		b := startedBooks()
		for range 200 {
			c := diceNetCall(b, roll)
			if c.what == "net" {
				checkNetByWords(t, b, c)
				checkNetLegsByWords(t, b, impl.TradesOpen(b, c.args[0], c.args[1]))
			}
			open := len(impl.TradesOpen(b, c.args[0], c.args[1]))
			next, told, code := c.do(b)
			if c.what == "net" {
				codes[code]++
			}
			if code != impl.BkDone {
				continue
			}
			if c.what == "net" {
				signs[1+min(1, max(-1, told))]++
				several += min(1, open/2)
			}
			b = next
		}
	}
	for _, code := range []int{impl.BkDone, impl.BkBad, impl.BkNone, impl.BkShort} {
		if codes[code] < 50 {
			t.Error("too few of a code", codes)
		}
	}
	if several < 50 || slices.Min(signs[:]) < 10 {
		t.Error("too few of several trades, or at a loss, at neither or at a gain", several, signs)
	}
}

// Holders of few numbers trade few pieces there, back and round: many legs come to nothing.
func TestP8WalkOfSmallTrades(t *testing.T) {
	empty, shorter, codes := 0, 0, map[int]int{}
	for seed := range 2000 {
		roll := dice(7000 + seed)
		b := withBal(withBal(dealBooks(), 6, 5, 40, nil), 4, 5, 10, nil)
		b = withBal(withBal(b, 6, 7, 5, lotRows{{6, 7, 5, 5, 9}}), 1, 7, -32, nil)
		n := 1 + roll(6)
		for i := range n {
			sides := [][2]int{{3, 2}, {2, 3}, {3, 2}, {2, 3}, {6, 2}, {3, 6}, {2, 6}}[roll(7)]
			b.Trades = append(b.Trades, tradeOf([8]int{1 + 3*i, sides[0], sides[1], 7 + 2*(roll(6)/5), 1 + roll(2), 5, 10 * roll(2), 1 + roll(9)/7*roll(3)}))
		}
		way := 1 + roll(3)
		checkNetByWords(t, b, netCall(1, 1000, way))
		checkNetByWords(t, b, netCall(1+roll(9), 10+roll(9), way))
		checkNetLegsByWords(t, b, allNos(b))
		_, legs, _, code := impl.BookNet(b, 1, 1000, way)
		codes[code]++
		if open := len(impl.TradesOpen(b, 1, 1000)); code == impl.BkDone && open > 1 {
			if len(legs) == 0 {
				empty++
			}
			if len(legs) < 4 {
				shorter++
			}
		}
	}
	if empty < 10 || shorter < 50 || codes[impl.BkDone] < 50 || codes[impl.BkShort] < 50 {
		t.Error("too few of them", empty, shorter, codes)
	}
}

// Lots, balances and trades are all there can be: many trades are netted or refused at once.
func TestP8WalkOfFullBooks(t *testing.T) {
	roll := dice(12)
	codes := map[int]int{}
	for range 30 {
		b := fullBooks()
		for i := range b.Trades {
			d := &b.Trades[i]
			*d = tradeOf([8]int{d.No, 1 + i%19, 1 + (i+1+roll(17))%19, 1 + roll(6), []int{1, 9, 10, 10, 10, 10}[roll(6)], 7 + roll(2), roll(6), impl.TrOpen})
			if d.Buyer == d.Seller {
				d.Buyer = 1 + d.Seller%19
			}
		}
		for range 12 {
			from := 10 + roll(impl.MaxTrades)
			c := netCall(from, from+roll(7), 1+roll(3))
			checkNetByWords(t, b, c)
			next, _, code := c.do(b)
			codes[code]++
			if code == impl.BkDone {
				b = next
			}
		}
		if pieces, _ := totals(b.Lots); pieces != 10*6*19 {
			t.Errorf("%d pieces are in lots", pieces)
		}
	}
	for _, code := range []int{impl.BkDone, impl.BkShort, impl.BkFull, impl.BkNone} {
		if codes[code] < 5 {
			t.Error("too few of a code", codes)
		}
	}
}

// Each way through right and full books, from each number to each other one.
func TestP8NetsByTheWords(t *testing.T) {
	ends := []int{0, 1, 2, 3, 10, 11, 14, 39, 40, 999, 1000, 1001}
	for _, b := range append(rightBooks(), openBooks(), lotted(openBooks(), lastNo-3), dealBooks(amidTrades([8]int{0, 3, 2, 7, 16, 5, 146, 1})...)) {
		for _, from := range ends {
			for _, to := range ends {
				for way := range 5 {
					checkNetByWords(t, b, netCall(from, to, way))
				}
			}
		}
	}
}

func TestP22NettingAnswersAtAnyNumbers(t *testing.T) {
	odd := []int{math.MinInt, -top - 1, -1, 0, 1, 2, 3, 4, 1000, 1001, top, top + 1, math.MaxInt}
	for _, b := range []impl.Books{{}, someBooks(), openBooks(), farBooks(), wrongBooks()[0], booksOfWrongBals()[0]} {
		for _, x := range odd {
			for _, y := range odd {
				for _, way := range odd {
					checkNetByWords(t, b, netCall(x, y, way))
					checkNetLegsByWords(t, b, []int{x, y, way})
				}
				checkNetLegsByWords(t, b, []int{x, y})
			}
		}
	}
}

// netBooks are books of which trades are netted, refused with each code, or not right.
func netBooks() []impl.Books {
	amid := func(tried [8]int) []impl.Books {
		return []impl.Books{dealBooks(amidTrades(tried)...), tallBooks(9, amidTrades(tried)...), lotted(dealBooks(amidTrades(tried)...), lastNo-2)}
	}
	list := slices.Concat(rightBooks(), wrongBooks()[:60], booksOfWrongBals()[:4], booksOfMisfitTrades()[:8],
		amid([8]int{0, 3, 2, 7, 1, 5, 5, 1}), amid([8]int{0, 3, 2, 7, 1, 5, 10, 1}), amid([8]int{0, 3, 2, 7, 19, 5, 1, 1}))
	for _, c := range netCases() {
		list = append(list, richBooks(c.trades...))
	}
	return append(list, openBooks(), gainBooks([]int{0, 0}, []int{0}, sellThree(1, 7, top), sellTwo(2, 8, 1)))
}

func TestP22NetLegsWriteIntoNothing(t *testing.T) {
	for _, given := range netBooks() {
		open := impl.TradesOpen(given, 1, 1000)
		for _, nos := range [][]int{nil, open, {1}, {2, 1}, {1, 1}, {1000, 5, 1}, repeated(impl.MaxTrades+1, 1), slices.Concat(open, open)} {
			r := roomyBooks(given)
			whole, asked, room := roomy(nos, spareMark)
			legs, ok := impl.NetLegs(r.books, asked)
			if !r.kept(given) || !slices.Equal(asked, nos) || !allAre(room, spareMark) {
				t.Errorf("NetLegs(%v, %v) writes: %v, %v", given, nos, r, whole)
			}
			// Whoever writes on into what was given turns no answer, nor another answer, and the other way round.
			again, _ := impl.NetLegs(r.books, asked)
			want := slices.Clone(legs)
			fill(again[:cap(again)], impl.Leg{Account: -6})
			fillBooks(r.books, -5)
			fill(whole, -5)
			if !slices.Equal(legs, want) {
				t.Errorf("NetLegs(%v, %v): the answer beside %v shares memory", given, nos, ok)
			}
			fill(legs[:cap(legs)], impl.Leg{Account: -6})
			if !allAre(whole, -5) || !r.allAre(-5) {
				t.Errorf("NetLegs(%v, %v): what was given shares memory with the answer beside %v", given, nos, ok)
			}
		}
	}
}

// allAre says whether the lists and the room behind them are written over with a number.
func (r booksRoom) allAre(x int) bool {
	return allAre(r.accounts, impl.Account{No: x}) && allAre(r.instrs, impl.Instr{No: x}) && allAre(r.bals, impl.Bal{Account: x}) &&
		allAre(r.lots, impl.Lot{Account: x}) && allAre(r.trades, impl.Trade{No: x})
}

func TestP22BookNetWritesIntoNothing(t *testing.T) {
	for _, given := range netBooks() {
		for _, c := range append(rightNetCalls(), badNetCalls()[:3]...) {
			r := roomyBooks(given)
			next, legs, gains, code := impl.BookNet(r.books, c.args[0], c.args[1], c.args[2])
			if !r.kept(given) {
				t.Errorf("%v writes into %v: %v", c, given, r)
			}
			wantNext, wantLegs := cloneBooks(next), slices.Clone(legs)
			fillBooks(r.books, -5)
			if !sameBooks(next, wantNext) || !slices.Equal(legs, wantLegs) {
				t.Errorf("%v of %v: the answer beside %d, %d shares memory with the books", c, given, gains, code)
			}
			// What is written into the legs is not seen in the books that were answered, and the other way round.
			fill(legs[:cap(legs)], impl.Leg{Account: -6})
			if !sameBooks(next, wantNext) || !r.allAre(-5) {
				t.Errorf("%v of %v: the legs beside %d, %d share memory", c, given, gains, code)
			}
			fillBooks(next, -7)
			if !allAre(legs[:cap(legs)], impl.Leg{Account: -6}) || !r.allAre(-5) {
				t.Errorf("%v of %v: the books beside %d, %d share memory", c, given, gains, code)
			}
		}
	}
}

// Two calls of the same tell the same, whatever was done to the first answer.
func TestP22NettingIsNewEachTime(t *testing.T) {
	for _, b := range netBooks() {
		for _, c := range rightNetCalls() {
			for range 2 {
				next, legs, _, _ := impl.BookNet(b, c.args[0], c.args[1], c.args[2])
				fillBooks(next, -6)
				fill(legs[:cap(legs)], impl.Leg{Account: -6})
				checkNetByWords(t, b, c)
			}
		}
	}
}
