package tests

import (
	"slices"
	"testing"

	"loop.example/g00110/impl"
)

func wantSettle(b impl.Books, no int, way int) (impl.Books, int, int) {
	d, found := tradeIn(b.Trades, no)
	if !found {
		return b, 0, impl.BkNone
	}
	if d.State != impl.TrOpen {
		return b, 0, impl.BkState
	}
	legs := rows{{d.Buyer, d.Cash, -d.Price}, {d.Seller, d.Cash, d.Price}, {d.Seller, d.Paper, -d.Qty}, {d.Buyer, d.Paper, d.Qty}}.legs()
	b, code := wantPosted(b, legs)
	if code != impl.BkDone {
		return b, 0, code
	}
	lots, cost, taken := wantTake(b.Lots, d.Seller, d.Paper, d.Qty, way)
	if taken != impl.LotDone {
		return b, 0, impl.BkShort
	}
	b.Lots = lots
	b, code = wantOpened(b, d.Buyer, d.Paper, d.Qty, d.Price)
	return inState(b, no, impl.TrDone), d.Price - cost, code
}

// wantPosted are books with all legs, where nobody that is a holder may lack any.
func wantPosted(b impl.Books, legs []impl.Leg) (impl.Books, int) {
	bals, posted := wantPost(b.Bals, legs, notHolders(b))
	switch posted {
	case impl.PostDone:
		b.Bals = bals
		return b, impl.BkDone
	case impl.PostShort:
		return b, impl.BkShort
	case impl.PostFull:
		return b, impl.BkFull
	}
	return b, impl.BkLarge
}

func notHolders(b impl.Books) []int {
	list := []int{}
	for _, a := range b.Accounts {
		if a.Kind != impl.Holder {
			list = append(list, a.No)
		}
	}
	return list
}

// paid are books in which one holder has so much less of a cash, and the other one so much more.
func paid(b impl.Books, buyer int, seller int, cash int, price int) impl.Books {
	less, more := amountIn(b.Bals, buyer, cash)-price, amountIn(b.Bals, seller, cash)+price
	return withBal(withBal(b, buyer, cash, less, nil), seller, cash, more, nil)
}

// lotted are books whose last lot has another number.
func lotted(b impl.Books, lot int) impl.Books {
	b.Lot = lot
	return b
}

// richBooks are dealBooks in which account 3 has 1150 of cash 5.
func richBooks(trades ...[8]int) impl.Books {
	return withBal(withBal(dealBooks(trades...), 1, 5, -1500, nil), 3, 5, 1150, nil)
}

// Account 2 has three lots of paper 7; the buyer has one already, or none; it is sold at a gain, at a loss and at neither.
func TestP7SettleByEachWay(t *testing.T) {
	for _, c := range sevensTaken() {
		for _, price := range []int{0, 1, c.cost - 1, c.cost, c.cost + 1, 1149, 1150} {
			b := richBooks([8]int{7, 2, 3, 7, 1, 5, 1, 1}, [8]int{8, 3, 2, 7, c.qty, 5, price, 1}, [8]int{9, 3, 2, 7, c.qty, 5, price, 1})
			want := withBal(b, 2, 7, 20-c.qty, c.left)
			want = withBal(want, 3, 7, 5+c.qty, lotRows{{3, 7, 3, 5, 60}, {3, 7, 10, c.qty, price}})
			want = inState(lotted(paid(want, 3, 2, 5, price), 10), 8, impl.TrDone)
			checkCall(t, b, settleCall(8, c.way), want, price-c.cost, impl.BkDone)
		}
		for _, price := range []int{0, 29, 30} {
			b := dealBooks([8]int{8, 6, 2, 7, c.qty, 6, price, 1})
			want := withBal(withBal(b, 2, 7, 20-c.qty, c.left), 6, 7, c.qty, lotRows{{6, 7, 10, c.qty, price}})
			want = inState(lotted(paid(want, 6, 2, 6, price), 10), 8, impl.TrDone)
			checkCall(t, b, settleCall(8, c.way), want, price-c.cost, impl.BkDone)
		}
	}
}

func TestP7SettleOfWhatIsNotThere(t *testing.T) {
	for _, no := range []int{2, 4, 999} {
		for _, way := range threeWays() {
			checkRefusal(t, someBooks(), settleCall(no, way), impl.BkNone)
			checkRefusal(t, impl.BooksNew(), settleCall(no, way), impl.BkNone)
			checkRefusal(t, fullBooks(), settleCall(no, way), impl.BkNone)
		}
	}
}

// What is settled or cancelled is refused whatever else is wrong with it, and a number that is there is not told again.
func TestP7SettledOnce(t *testing.T) {
	for _, way := range threeWays() {
		b := dealBooks([8]int{1, 2, 3, 7, 2, 5, 30, 1}, [8]int{1000, 3, 2, 9, 1, 5, 10, 1})
		for _, no := range []int{1, 1000} {
			done, _, code := impl.BookSettle(b, no, way)
			if code != impl.BkDone {
				t.Fatalf("trade %d by way %d: %d", no, way, code)
			}
			checkTradesOpen(t, done, 1, 1000, []int{1001 - no})
			for _, again := range threeWays() {
				checkRefusal(t, done, settleCall(no, again), impl.BkState)
			}
			checkRefusal(t, done, cancelCall(no), impl.BkState)
			checkRefusal(t, done, tradeCall(no, 2, 3, 7, 2, 5, 30), impl.BkKnown)
		}
		for _, state := range []int{impl.TrDone, impl.TrGone} {
			for _, row := range [][8]int{{4, 2, 3, 7, 1, 5, 1, state}, {4, 2, 3, 7, 6, 5, 1, state}, {4, 2, 3, 7, 1, 5, 301, state}, {4, 6, 2, 7, top, 5, top, state}} {
				checkRefusal(t, dealBooks(row), settleCall(4, way), impl.BkState)
				checkRefusal(t, lotted(dealBooks(row), lastNo), settleCall(4, way), impl.BkState)
				checkRefusal(t, dealBooks(row), cancelCall(4), impl.BkState)
			}
		}
	}
}

// All the pieces that the seller has, just the price that the buyer has; and one more of each.
func TestP7SettleThatIsShort(t *testing.T) {
	for _, way := range threeWays() {
		b := dealBooks([8]int{4, 3, 2, 7, 20, 5, 150, 1})
		want := withBal(withBal(b, 2, 7, 0, nil), 3, 7, 25, lotRows{{3, 7, 3, 5, 60}, {3, 7, 10, 20, 150}})
		want = inState(lotted(paid(want, 3, 2, 5, 150), 10), 4, impl.TrDone)
		checkCall(t, b, settleCall(4, way), want, -21, impl.BkDone)
		for _, row := range [][8]int{
			{4, 3, 2, 7, 21, 5, 150, 1}, {4, 3, 2, 7, 20, 5, 151, 1}, {4, 3, 2, 7, 21, 5, 151, 1}, {4, 3, 2, 7, 21, 5, 0, 1}, {4, 3, 2, 7, 1, 5, 151, 1},
			// A seller without any of the pieces, and one that has pieces of another paper alone.
			{4, 2, 6, 7, 1, 5, 1, 1}, {4, 2, 6, 7, 1, 5, 0, 1}, {4, 3, 6, 9, top, 5, 150, 1}, {4, 2, 3, 9, 1, 5, 1, 1},
			// A buyer without any of the cash, and one that has another cash alone.
			{4, 3, 2, 7, 1, 6, 1, 1}, {4, 6, 2, 7, 1, 5, 1, 1}, {4, 6, 2, 9, 4, 6, 31, 1},
			// What the buyer has of the paper, and the seller of the cash, helps neither.
			{4, 2, 3, 7, 6, 5, 1, 1}, {4, 2, 6, 7, 1, 6, 1, 1}, {4, 3, 2, 7, 1, 5, 300, 1},
		} {
			checkRefusal(t, dealBooks(row), settleCall(4, way), impl.BkShort)
			// The legs are the part that is named first.
			checkRefusal(t, lotted(dealBooks(row), lastNo), settleCall(4, way), impl.BkShort)
		}
		full := fullBooks()
		full.Trades = tradeRows{{1, 18, 19, 6, 11, 7, 10, 1}, {2, 18, 19, 6, 9, 7, 11, 1}}.trades()
		checkRefusal(t, full, settleCall(1, way), impl.BkShort)
		checkRefusal(t, full, settleCall(2, way), impl.BkShort)
	}
}

// edgeBooks have a buyer 2 and a seller 3 with so much cash 5 and so many pieces of paper 7, in one lot each that cost nothing.
func edgeBooks(buyer [2]int, seller [2]int, row [8]int) impl.Books {
	b := impl.Books{Accounts: chartOf(1, impl.Issuer, 2, impl.Holder, 3, impl.Holder, 4, impl.Issuer), Instrs: instrsOf(5, impl.Cash, 7, impl.Paper), Lot: 2}
	b.Trades = []impl.Trade{tradeOf(row)}
	for i, instr := range []int{5, 7} {
		b.Bals = balWith(b.Bals, 2, instr, buyer[i])
		b.Bals = balWith(b.Bals, 3, instr, seller[i])
		b.Bals = balWith(b.Bals, 1, instr, -buyer[i])
		b.Bals = balWith(b.Bals, 4, instr, -seller[i])
	}
	for i, qty := range []int{buyer[1], seller[1]} {
		if qty > 0 {
			b.Lots = append(b.Lots, impl.Lot{Account: 2 + i, Instr: 7, No: 1 + i, Qty: qty})
		}
	}
	return b
}

func TestP7SettleThatIsTooLarge(t *testing.T) {
	for _, way := range threeWays() {
		for _, c := range []struct {
			buyer, seller [2]int
			qty, price    int
			code          int
		}{
			{[2]int{10, 0}, [2]int{top - 9, 5}, 5, 9, impl.BkDone},
			{[2]int{10, 0}, [2]int{top - 9, 5}, 5, 10, impl.BkLarge},
			{[2]int{1, 0}, [2]int{top, 5}, 5, 0, impl.BkDone},
			{[2]int{1, 0}, [2]int{top, 5}, 5, 1, impl.BkLarge},
			{[2]int{0, top - 5}, [2]int{0, 6}, 5, 0, impl.BkDone},
			{[2]int{0, top - 5}, [2]int{0, 6}, 6, 0, impl.BkLarge},
			{[2]int{top, top}, [2]int{0, 1}, 1, 0, impl.BkLarge},
			{[2]int{top, 1}, [2]int{0, top}, top, top, impl.BkLarge},
			{[2]int{top, 1}, [2]int{0, top}, top - 1, top, impl.BkDone},
			// BalsPost names what is too large ahead of what is short, on whichever side that is.
			{[2]int{10, 0}, [2]int{top - 9, 5}, 5, 11, impl.BkLarge},
			{[2]int{0, top - 5}, [2]int{0, 6}, 7, 0, impl.BkLarge},
			{[2]int{10, 0}, [2]int{top - 9, 5}, 6, 10, impl.BkLarge},
			{[2]int{0, top - 5}, [2]int{0, 6}, 6, 1, impl.BkLarge},
			{[2]int{0, 0}, [2]int{top, 0}, 1, 1, impl.BkLarge},
			{[2]int{0, 0}, [2]int{0, 0}, top, top, impl.BkShort},
		} {
			b := edgeBooks(c.buyer, c.seller, [8]int{1, 2, 3, 7, c.qty, 5, c.price, 1})
			if c.code != impl.BkDone {
				checkRefusal(t, b, settleCall(1, way), c.code)
				checkRefusal(t, lotted(b, lastNo), settleCall(1, way), c.code)
				continue
			}
			checkCallByWords(t, b, settleCall(1, way))
			if _, gain, code := impl.BookSettle(b, 1, way); gain != c.price || code != c.code {
				t.Errorf("settling of %v by way %d: %d, %d", b, way, gain, code)
			}
		}
		checkRefusal(t, farBooks(), settleCall(1, way), impl.BkLarge)
	}
}

// A price of nothing and of all that can be, and as much as can be gained and lost.
func TestP7SettleOfFarPrices(t *testing.T) {
	for _, way := range threeWays() {
		far := farBooks()
		far.Trades = tradeRows{{1000, 4, 1000, 1, 1, 1000, 0, 1}}.trades()
		want := withBal(withBal(far, 1000, 1, 0, nil), 4, 1, top, lotRows{{4, 1, 7, top - 2, top - 3}, {4, 1, 8, 1, 2}, {4, 1, lastNo - 1, 1, 0}})
		checkCall(t, far, settleCall(1000, way), inState(lotted(want, lastNo-1), 1000, impl.TrDone), -top, impl.BkDone)
		// All pieces that can be, for all cash that can be.
		whole := edgeBooks([2]int{top, 0}, [2]int{0, top}, [8]int{1, 2, 3, 7, top, 5, top, 1})
		for _, cost := range []int{0, 1, top - 1, top} {
			given := withBal(whole, 3, 7, top, lotRows{{3, 7, 2, top, cost}})
			want = withBal(withBal(given, 3, 7, 0, nil), 2, 7, top, lotRows{{2, 7, 3, top, top}})
			want = inState(lotted(paid(want, 2, 3, 5, top), 3), 1, impl.TrDone)
			checkCall(t, given, settleCall(1, way), want, top-cost, impl.BkDone)
		}
	}
	// One piece of many, whose part of the cost is rounded down.
	dear := farBooks()
	dear.Lots[3].Cost = 0
	dear.Trades = tradeRows{{1, 1000, 4, 1, 1, 1000, top, 1}}.trades()
	for i, gain := range []int{top, top - 2, top - 1} {
		way := threeWays()[i]
		checkCallByWords(t, dear, settleCall(1, way))
		if _, got, code := impl.BookSettle(dear, 1, way); got != gain || code != impl.BkDone {
			t.Errorf("a far price by way %d: %d, %d; want %d", way, got, code, gain)
		}
	}
}

// The legs are posted and the lots are taken, and the last part is refused: nothing is turned.
func TestP7SettleWhereLotsAreFull(t *testing.T) {
	full := fullBooks()
	full.Trades = tradeRows{{1, 18, 19, 6, 9, 7, 10, 1}, {2, 18, 19, 6, 10, 7, 10, 1}, {3, 19, 1, 1, 1, 8, 0, 1}, {4, 19, 1, 1, 9, 8, 4, 1}}.trades()
	for _, way := range threeWays() {
		checkRefusal(t, full, settleCall(1, way), impl.BkFull)
		// A lot that is taken whole leaves room for one.
		want := withBal(withBal(full, 19, 6, 0, nil), 18, 6, 20, lotRows{{18, 6, 108, 10, 18}, {18, 6, 1001, 10, 10}})
		want = inState(lotted(paid(want, 18, 19, 7, 10), 1001), 2, impl.TrDone)
		checkCall(t, full, settleCall(2, way), want, -9, impl.BkDone)
	}
	// Of two lots the last one is one piece, and Mean makes one lot of both.
	checkRefusal(t, full, settleCall(3, impl.First), impl.BkFull)
	for _, c := range []bookCall{settleCall(3, impl.Last), settleCall(3, impl.Mean), settleCall(4, impl.First), settleCall(4, impl.Last), settleCall(4, impl.Mean)} {
		checkCallByWords(t, full, c)
		if b, _, code := c.do(full); code != impl.BkDone || len(b.Lots) != impl.MaxLots {
			t.Error("lots that leave room", c, b, code)
		}
	}
	room := withLotsCut(fullBooksUncut(), impl.MaxLots-1)
	room.Trades = full.Trades
	for _, way := range threeWays() {
		if b, _, code := impl.BookSettle(room, 1, way); code != impl.BkDone || len(b.Lots) != impl.MaxLots {
			t.Error("a lot for which there is room", b, code)
		}
	}
}

// All that the buyer's pieces cost together would be no amount, though the pieces and the cash would.
func TestP7SettleOfTooMuchCost(t *testing.T) {
	for _, way := range threeWays() {
		row := [8]int{4, 3, 2, 7, 20, 5, 6, 1}
		b := withBal(dealBooks(row), 3, 7, 5, lotRows{{3, 7, 3, 4, top - 5}, {3, 7, 5, 1, 0}})
		checkRefusal(t, b, settleCall(4, way), impl.BkFull)
		b.Trades[0].Price = 5
		want := withBal(withBal(b, 2, 7, 0, nil), 3, 7, 25, lotRows{{3, 7, 3, 4, top - 5}, {3, 7, 5, 1, 0}, {3, 7, 10, 20, 5}})
		want = inState(lotted(paid(want, 3, 2, 5, 5), 10), 4, impl.TrDone)
		checkCall(t, b, settleCall(4, way), want, 5-171, impl.BkDone)
		// What the buyer has of another paper does not count.
		other := withBal(withBal(dealBooks([8]int{4, 2, 3, 7, 5, 5, 60, 1}), 2, 9, 4, lotRows{{2, 9, 2, 4, top}}), 6, 7, 0, nil)
		checkCallByWords(t, other, settleCall(4, way))
		if _, gain, code := impl.BookSettle(other, 4, way); gain != 0 || code != impl.BkDone {
			t.Error("a dear paper beside", gain, code)
		}
		far := farBooks()
		far.Trades = tradeRows{{1, 1000, 4, 1, 1, 1000, 1, 1}}.trades()
		checkRefusal(t, far, settleCall(1, way), impl.BkFull)
	}
}

func TestP7SettleOfTheLastLots(t *testing.T) {
	for _, way := range threeWays() {
		b := lotted(dealBooks([8]int{4, 6, 3, 7, 3, 6, 30, 1}, [8]int{5, 6, 3, 7, 2, 6, 0, 1}, [8]int{6, 3, 2, 9, 4, 5, 1, 1}), lastNo-1)
		want := withBal(withBal(b, 3, 7, 2, lotRows{{3, 7, 3, 2, 24}}), 6, 7, 3, lotRows{{6, 7, lastNo, 3, 30}})
		want = inState(lotted(paid(want, 6, 3, 6, 30), lastNo), 4, impl.TrDone)
		checkCall(t, b, settleCall(4, way), want, -6, impl.BkDone)
		checkRefusal(t, want, settleCall(5, way), impl.BkFull)
		// Also where lots that are taken whole leave room.
		checkRefusal(t, want, settleCall(6, way), impl.BkFull)
		// A trade that cannot be settled can be cancelled still.
		checkCall(t, want, cancelCall(5), inState(want, 5, impl.TrGone), 0, impl.BkDone)
	}
}

// Of one paper account 2 sells twice and buys back; who had nothing sells what it bought.
func TestP7SeveralTradesOfOnePaper(t *testing.T) {
	b := dealBooks([8]int{1, 6, 2, 7, 12, 6, 30, 1}, [8]int{2, 3, 2, 7, 8, 5, 100, 1}, [8]int{3, 2, 6, 7, 5, 5, 77, 1}, [8]int{4, 3, 6, 7, 8, 5, 1, 1})
	checkRefusal(t, b, settleCall(3, impl.First), impl.BkShort)
	sold := withBal(withBal(b, 2, 7, 8, lotRows{{2, 7, 4, 1, 17}, {2, 7, 9, 7, 20}}), 6, 7, 12, lotRows{{6, 7, 10, 12, 30}})
	sold = inState(lotted(paid(sold, 6, 2, 6, 30), 10), 1, impl.TrDone)
	checkCall(t, b, settleCall(1, impl.First), sold, 30-134, impl.BkDone)
	back := withBal(withBal(sold, 6, 7, 7, lotRows{{6, 7, 10, 7, 18}}), 2, 7, 13, lotRows{{2, 7, 4, 1, 17}, {2, 7, 9, 7, 20}, {2, 7, 11, 5, 77}})
	back = inState(lotted(paid(back, 2, 6, 5, 77), 11), 3, impl.TrDone)
	checkCall(t, sold, settleCall(3, impl.Last), back, 77-12, impl.BkDone)
	checkRefusal(t, back, settleCall(4, impl.Mean), impl.BkShort)
	twice := withBal(withBal(back, 2, 7, 5, lotRows{{2, 7, 4, 5, 44}}), 3, 7, 13, lotRows{{3, 7, 3, 5, 60}, {3, 7, 12, 8, 100}})
	twice = inState(lotted(paid(twice, 3, 2, 5, 100), 12), 2, impl.TrDone)
	checkCall(t, back, settleCall(2, impl.Mean), twice, 100-70, impl.BkDone)
	checkTradesOpen(t, twice, 1, 1000, []int{4})
	checkCall(t, twice, cancelCall(4), inState(twice, 4, impl.TrGone), 0, impl.BkDone)
}

// What is settled the buyer has more pieces and less cash and the seller the other way round, each at its cost; nobody else has another thing.
func checkSettled(t *testing.T, b impl.Books, c bookCall) {
	t.Helper()
	next, gain, code := impl.BookSettle(b, c.args[0], c.args[1])
	if code != impl.BkDone {
		return
	}
	d, _ := tradeIn(b.Trades, c.args[0])
	for _, a := range b.Accounts {
		for _, i := range b.Instrs {
			want := map[[2]int][3]int{
				{d.Buyer, d.Cash}: {-d.Price, 0, 0}, {d.Buyer, d.Paper}: {d.Qty, d.Qty, d.Price},
				{d.Seller, d.Cash}: {d.Price, 0, 0}, {d.Seller, d.Paper}: {-d.Qty, -d.Qty, gain - d.Price},
			}[[2]int{a.No, i.No}]
			checkTurnedBy(t, b, next, c, a.No, i.No, want)
		}
	}
	if !slices.Equal(next.Accounts, b.Accounts) || !slices.Equal(next.Instrs, b.Instrs) || !slices.Equal(next.Trades, inState(b, d.No, impl.TrDone).Trades) {
		t.Errorf("%v of %v turns more than balances, lots and its trade: %v", c, b, next)
	}
}

func TestP7SettlesByTheWords(t *testing.T) {
	last := lotted(someBooks(), lastNo)
	for _, given := range []impl.Books{someBooks(), last, farBooks(), fullBooks()} {
		for _, sides := range [][2]int{{2, 3}, {3, 2}, {6, 2}, {1, 1000}, {1000, 1}, {1000, 4}, {4, 1000}, {1, 19}} {
			for _, paper := range []int{1, 7, 9} {
				for _, cash := range []int{5, 6, 8, 1000} {
					for _, qty := range []int{1, 5, 6, 9, 10, 20, 21, top - 1, top} {
						for _, price := range []int{0, 1, 10, 150, 151, top} {
							b := given
							b.Trades = tradeRows{{5, sides[0], sides[1], paper, qty, cash, price, impl.TrOpen}}.trades()
							if !tradesFit(b) {
								continue
							}
							for way := range 5 {
								checkCallByWords(t, b, settleCall(5, way))
								checkSettled(t, b, settleCall(5, way))
							}
						}
					}
				}
			}
		}
	}
}
