package tests

import (
	"math"
	"slices"
	"testing"

	"loop.example/g00110/impl"
)

// wantNetLegs is what NetLegs must answer, by the words, account by account and instrument by instrument.
func wantNetLegs(b impl.Books, nos []int) ([]impl.Leg, bool) {
	if !booksRight(b) || len(nos) > 30 {
		return nil, false
	}
	for i, no := range nos {
		if d, found := tradeIn(b.Trades, no); !found || d.State != impl.TrOpen || slices.Index(nos, no) != i {
			return nil, false
		}
	}
	legs := []impl.Leg{}
	for _, a := range b.Accounts {
		for _, i := range b.Instrs {
			left := wantLeft(b, nos, a.No, i.No)
			if left < -top || left > top {
				return nil, false
			}
			if left != 0 {
				legs = append(legs, impl.Leg{Account: a.No, Instr: i.No, Amount: left})
			}
		}
	}
	return legs, true
}

// wantLeft is all that an account gets of an instrument by trades, less all that it gives.
func wantLeft(b impl.Books, nos []int, account int, instr int) int {
	gets, gives := 0, 0
	for _, no := range nos {
		d, _ := tradeIn(b.Trades, no)
		for _, side := range [][4]int{{d.Buyer, d.Seller, d.Cash, d.Price}, {d.Seller, d.Buyer, d.Paper, d.Qty}} {
			if side[2] == instr && side[0] == account {
				gives += side[3]
			}
			if side[2] == instr && side[1] == account {
				gets += side[3]
			}
		}
	}
	return gets - gives
}

// checkNetLegs wants an answer, and the same one in whatever order the numbers come.
func checkNetLegs(t *testing.T, b impl.Books, nos []int, want []impl.Leg, wantOk bool) {
	t.Helper()
	for _, order := range ordersOf(nos) {
		if legs, ok := impl.NetLegs(b, order); !slices.Equal(legs, want) || ok != wantOk {
			t.Errorf("NetLegs(%v, %v) = %v, %v; want %v, %v", b, order, legs, ok, want, wantOk)
		}
	}
	if wantOk {
		checkEvenLegs(t, b, nos)
	}
}

func checkNoLegs(t *testing.T, b impl.Books, nos []int) {
	t.Helper()
	checkNetLegs(t, b, nos, nil, false)
}

func checkNetLegsByWords(t *testing.T, b impl.Books, nos []int) {
	t.Helper()
	want, ok := wantNetLegs(b, nos)
	checkNetLegs(t, b, nos, want, ok)
}

// checkEvenLegs is what follows: they are legs that add up to nothing, one at most for an account and an instrument, and ascending.
func checkEvenLegs(t *testing.T, b impl.Books, nos []int) {
	t.Helper()
	legs, _ := impl.NetLegs(b, nos)
	if !impl.LegsOk(legs) || !legsFormed(legs) || !legsEven(legs) {
		t.Errorf("NetLegs(%v, %v) = %v: these are no legs", b, nos, legs)
	}
	for i, leg := range legs {
		if leg.Amount == 0 {
			t.Errorf("NetLegs(%v, %v) = %v: a leg of nothing", b, nos, legs)
		}
		if i > 0 && (leg.Account < legs[i-1].Account || leg.Account == legs[i-1].Account && leg.Instr <= legs[i-1].Instr) {
			t.Errorf("NetLegs(%v, %v) = %v: they do not ascend", b, nos, legs)
		}
	}
}

// ordersOf are a row in several orders: as it is, backwards, turned round, and shuffled.
func ordersOf(nos []int) [][]int {
	backwards := slices.Clone(nos)
	slices.Reverse(backwards)
	orders := [][]int{nos, backwards}
	if len(nos) < 3 {
		return orders
	}
	roll := dice(len(nos))
	shuffled := slices.Clone(nos)
	for i := range shuffled {
		other := i + roll(len(shuffled)-i)
		shuffled[i], shuffled[other] = shuffled[other], shuffled[i]
	}
	return append(orders, slices.Concat(nos[1:], nos[:1]), slices.Concat(nos[2:], nos[:2]), shuffled)
}

// allNos are the numbers of all trades, whatever their states are.
func allNos(b impl.Books) []int {
	nos := []int{}
	for _, d := range b.Trades {
		nos = append(nos, d.No)
	}
	return nos
}

// netCases are open trades of someBooks, and the legs that are left of them all.
func netCases() []struct {
	trades tradeRows
	want   rows
} {
	return []struct {
		trades tradeRows
		want   rows
	}{
		// One trade, also for nothing, and of all that can be.
		{tradeRows{{4, 3, 2, 7, 12, 5, 100, 1}}, rows{{2, 5, 100}, {2, 7, -12}, {3, 5, -100}, {3, 7, 12}}},
		{tradeRows{{4, 2, 3, 7, 5, 5, 60, 1}}, rows{{2, 5, -60}, {2, 7, 5}, {3, 5, 60}, {3, 7, -5}}},
		{tradeRows{{4, 3, 2, 7, 12, 5, 0, 1}}, rows{{2, 7, -12}, {3, 7, 12}}},
		{tradeRows{{1000, 6, 2, 9, top, 6, top, 1}}, rows{{2, 6, top}, {2, 9, -top}, {6, 6, -top}, {6, 9, top}}},
		// Two trades between two holders: one way, back in part, and back with more.
		{tradeRows{{1, 3, 2, 7, 4, 5, 60, 1}, {2, 3, 2, 7, 3, 5, 10, 1}}, rows{{2, 5, 70}, {2, 7, -7}, {3, 5, -70}, {3, 7, 7}}},
		{tradeRows{{4, 3, 2, 7, 12, 5, 100, 1}, {8, 2, 3, 7, 5, 5, 60, 1}}, rows{{2, 5, 40}, {2, 7, -7}, {3, 5, -40}, {3, 7, 7}}},
		{tradeRows{{4, 3, 2, 7, 1, 5, 30, 1}, {8, 2, 3, 7, 5, 5, 60, 1}}, rows{{2, 5, -30}, {2, 7, 4}, {3, 5, 30}, {3, 7, -4}}},
		// Two papers, two cashes, and two of each.
		{tradeRows{{1, 3, 2, 7, 4, 5, 60, 1}, {2, 3, 2, 9, 2, 5, 15, 1}}, rows{{2, 5, 75}, {2, 7, -4}, {2, 9, -2}, {3, 5, -75}, {3, 7, 4}, {3, 9, 2}}},
		{tradeRows{{1, 3, 2, 7, 4, 5, 60, 1}, {2, 3, 2, 7, 4, 6, 15, 1}}, rows{{2, 5, 60}, {2, 6, 15}, {2, 7, -8}, {3, 5, -60}, {3, 6, -15}, {3, 7, 8}}},
		{tradeRows{{1, 3, 2, 7, 4, 5, 60, 1}, {2, 2, 3, 9, 2, 6, 15, 1}},
			rows{{2, 5, 60}, {2, 6, -15}, {2, 7, -4}, {2, 9, 2}, {3, 5, -60}, {3, 6, 15}, {3, 7, 4}, {3, 9, -2}}},
		// A holder that buys and sells: the pieces go through it, and of them nothing is left there.
		{tradeRows{{1, 3, 2, 7, 4, 5, 60, 1}, {2, 6, 3, 7, 4, 6, 9, 1}}, rows{{2, 5, 60}, {2, 7, -4}, {3, 5, -60}, {3, 6, 9}, {6, 6, -9}, {6, 7, 4}}},
		{tradeRows{{1, 3, 2, 7, 4, 5, 60, 1}, {2, 6, 3, 7, 3, 5, 60, 1}}, rows{{2, 5, 60}, {2, 7, -4}, {3, 7, 1}, {6, 5, -60}, {6, 7, 3}}},
		// Round among three: of the pieces nothing is left, then of the cash, then of both.
		{tradeRows{{1, 3, 2, 7, 10, 5, 50, 1}, {2, 6, 3, 7, 10, 6, 30, 1}, {3, 2, 6, 7, 10, 5, 20, 1}},
			rows{{2, 5, 30}, {3, 5, -50}, {3, 6, 30}, {6, 5, 20}, {6, 6, -30}}},
		{tradeRows{{1, 3, 2, 7, 10, 5, 50, 1}, {2, 6, 3, 7, 5, 5, 50, 1}, {3, 2, 6, 7, 4, 5, 50, 1}}, rows{{2, 7, -6}, {3, 7, 5}, {6, 7, 1}}},
		{tradeRows{{1, 3, 2, 7, 10, 5, 50, 1}, {2, 6, 3, 7, 10, 5, 50, 1}, {3, 2, 6, 7, 10, 5, 50, 1}}, nil},
		// There and back: the same for the same, for more, more for the same, for another cash, and another paper.
		{tradeRows{{1, 3, 2, 7, 4, 5, 60, 1}, {2, 2, 3, 7, 4, 5, 60, 1}}, nil},
		{tradeRows{{1, 3, 2, 7, 4, 5, 0, 1}, {2, 2, 3, 7, 4, 5, 0, 1}}, nil},
		{tradeRows{{1, 3, 2, 7, 4, 5, 60, 1}, {2, 2, 3, 7, 4, 5, 61, 1}}, rows{{2, 5, -1}, {3, 5, 1}}},
		{tradeRows{{1, 3, 2, 7, 4, 5, 60, 1}, {2, 2, 3, 7, 5, 5, 60, 1}}, rows{{2, 7, 1}, {3, 7, -1}}},
		{tradeRows{{1, 3, 2, 7, 4, 5, 60, 1}, {2, 2, 3, 7, 4, 6, 60, 1}}, rows{{2, 5, 60}, {2, 6, -60}, {3, 5, -60}, {3, 6, 60}}},
		{tradeRows{{1, 3, 2, 7, 4, 5, 60, 1}, {2, 2, 3, 9, 4, 5, 60, 1}}, rows{{2, 7, -4}, {2, 9, 4}, {3, 7, 4}, {3, 9, -4}}},
	}
}

func TestP8LegsOfTrades(t *testing.T) {
	for _, c := range netCases() {
		b := dealBooks(c.trades...)
		checkNetLegs(t, b, allNos(b), c.want.legs(), true)
		checkNetLegsByWords(t, b, allNos(b))
	}
	far := farBooks()
	checkNetLegs(t, far, []int{1}, rows{{1, 1, 1}, {1000, 1, -1}}.legs(), true)
	far.Trades[0].Price = 7
	checkNetLegs(t, far, []int{1}, rows{{1, 1, 1}, {1, 1000, -7}, {1000, 1, -1}, {1000, 1000, 7}}.legs(), true)
}

// What is open and is not named counts for nothing.
func TestP8LegsOfSomeTrades(t *testing.T) {
	b := dealBooks([8]int{1, 3, 2, 7, 4, 5, 60, 1}, [8]int{2, 2, 3, 7, 4, 5, 60, 1}, [8]int{3, 6, 2, 9, 1, 6, 3, 1}, [8]int{5, 3, 6, 9, 1, 6, 3, 1},
		[8]int{8, 2, 3, 9, 1, 5, 0, 1}, [8]int{9, 6, 3, 7, top, 6, top, 1}, [8]int{10, 6, 3, 7, 1, 5, 1, 1}, [8]int{1000, 3, 6, 7, 2, 6, top - 1, 1})
	checkNetLegs(t, b, []int{1, 2}, nil, true)
	checkNetLegs(t, b, []int{3, 5}, rows{{2, 6, 3}, {2, 9, -1}, {3, 6, -3}, {3, 9, 1}}.legs(), true)
	checkNetLegs(t, b, []int{3, 5, 8}, rows{{2, 6, 3}, {3, 6, -3}}.legs(), true)
	checkNetLegs(t, b, []int{9, 1000}, rows{{3, 6, 1}, {3, 7, 2 - top}, {6, 6, -1}, {6, 7, top - 2}}.legs(), true)
	checkNoLegs(t, b, []int{9, 10})
	checkNetLegs(t, b, []int{9, 10, 1000}, rows{{3, 5, 1}, {3, 6, 1}, {3, 7, 1 - top}, {6, 5, -1}, {6, 6, -1}, {6, 7, top - 1}}.legs(), true)
	nos := allNos(b)
	for some := range 1 << len(nos) {
		part := []int{}
		for i, no := range nos {
			if some>>i&1 == 1 {
				part = append(part, no)
			}
		}
		checkNetLegsByWords(t, b, part)
	}
}

func TestP8LegsOfNoTrades(t *testing.T) {
	for _, b := range rightBooks() {
		checkNetLegs(t, b, nil, nil, true)
		checkNetLegs(t, b, []int{}, nil, true)
	}
	for _, b := range wrongBooks() {
		for _, nos := range [][]int{nil, {}, {1}, {9}, {1, 9}, {5}, {1000}} {
			checkNoLegs(t, b, nos)
		}
	}
}

// openBooks are someBooks with as many open trades as there can be: each one piece, there and back by turns.
func openBooks() impl.Books {
	b := someBooks()
	b.Trades = nil
	for i := range impl.MaxTrades {
		sides := [][2]int{{3, 2}, {2, 3}, {3, 2}}[i%3]
		b.Trades = append(b.Trades, tradeOf([8]int{1 + 33*i, sides[0], sides[1], 7, 1, 5, 1 + i, impl.TrOpen}))
	}
	return b
}

func TestP8LegsOfAsManyAsThereCanBe(t *testing.T) {
	b := openBooks()
	nos := allNos(b)
	// Of the prices 1 to 30 those of the places 2, 5, 8 .. go back.
	want := rows{{2, 5, 465 - 2*155}, {2, 7, -10}, {3, 5, 2*155 - 465}, {3, 7, 10}}.legs()
	checkNetLegs(t, b, nos, want, true)
	for _, more := range []int{1, 958, 2, 1000, 0, -1} {
		checkNoLegs(t, b, append(slices.Clone(nos), more))
	}
	for i := range nos {
		checkNetLegsByWords(t, b, nos[:i])
		checkNetLegsByWords(t, b, nos[i:])
	}
	checkNoLegs(t, b, slices.Concat(nos, nos))
	checkNoLegs(t, b, repeated(100000, 1))
	checkNoLegs(t, impl.BooksNew(), repeated(impl.MaxTrades+1, 1))
}

func TestP8LegsOfOneTwice(t *testing.T) {
	b := dealBooks([8]int{1, 3, 2, 7, 4, 5, 60, 1}, [8]int{2, 2, 3, 7, 4, 5, 60, 1}, [8]int{5, 6, 2, 9, 1, 6, 3, 1})
	for _, nos := range [][]int{{1, 1}, {5, 5}, {1, 2, 1}, {1, 1, 2}, {2, 1, 1}, {1, 2, 5, 1}, {5, 1, 2, 5}, {1, 2, 5, 5}, {1, 1, 1}, {1, 2, 1, 2}} {
		checkNoLegs(t, b, nos)
	}
	checkNetLegs(t, b, []int{1, 2, 5}, rows{{2, 6, 3}, {2, 9, -1}, {6, 6, -3}, {6, 9, 1}}.legs(), true)
}

func TestP8LegsOfWhatIsNotOpen(t *testing.T) {
	b := dealBooks([8]int{1, 3, 2, 7, 4, 5, 60, 1}, [8]int{2, 2, 3, 7, 4, 5, 60, 2}, [8]int{5, 6, 2, 9, 1, 6, 3, 3}, [8]int{7, 2, 3, 7, 1, 5, 3, 1})
	for _, no := range append(wrongNumbers(), 2, 5, 3, 4, 6, 8, 999, 1000) {
		for _, nos := range [][]int{{no}, {no, 1}, {1, no}, {1, no, 7}, {no, 1, 7}, {1, 7, no}, {no, no}, {2, no}, {no, 3}} {
			checkNoLegs(t, b, nos)
		}
		if no != 1 && no != 10 {
			checkNoLegs(t, impl.BooksNew(), []int{no})
		}
	}
	checkNetLegs(t, b, []int{1, 7}, rows{{2, 5, 57}, {2, 7, -3}, {3, 5, -57}, {3, 7, 3}}.legs(), true)
	for _, given := range rightBooks() {
		for no := -1; no <= 45; no++ {
			checkNetLegsByWords(t, given, []int{no})
		}
		checkNetLegsByWords(t, given, allNos(given))
		checkNetLegsByWords(t, given, impl.TradesOpen(given, math.MinInt, math.MaxInt))
	}
	// What is settled or cancelled is not open any more.
	done, _, _ := impl.BookSettle(b, 1, impl.First)
	gone, _ := impl.BookCancel(b, 7)
	checkNoLegs(t, done, []int{1})
	checkNoLegs(t, done, []int{7, 1})
	checkNoLegs(t, gone, []int{7})
	checkNetLegs(t, done, []int{7}, rows{{2, 5, -3}, {2, 7, 1}, {3, 5, 3}, {3, 7, -1}}.legs(), true)
	checkNetLegs(t, gone, []int{1}, rows{{2, 5, 60}, {2, 7, -4}, {3, 5, -60}, {3, 7, 4}}.legs(), true)
}

// A sum that is just an amount, and one that is too large: of who gets, of who gives, of the pieces and of the cash.
func TestP8LegsOfFarSums(t *testing.T) {
	for _, c := range []struct {
		trades tradeRows
		want   rows
		ok     bool
	}{
		{tradeRows{{1, 3, 2, 7, top - 1, 5, 0, 1}, {2, 3, 2, 7, 1, 5, 0, 1}}, rows{{2, 7, -top}, {3, 7, top}}, true},
		{tradeRows{{1, 3, 2, 7, top, 5, 0, 1}, {2, 3, 2, 7, 1, 5, 0, 1}}, nil, false},
		{tradeRows{{1, 3, 2, 7, top - 1, 5, 0, 1}, {2, 3, 6, 7, 1, 5, 0, 1}}, rows{{2, 7, 1 - top}, {3, 7, top}, {6, 7, -1}}, true},
		{tradeRows{{1, 3, 2, 7, top, 5, 0, 1}, {2, 3, 6, 7, 1, 5, 0, 1}}, nil, false},
		{tradeRows{{1, 3, 2, 7, top - 1, 5, 0, 1}, {2, 6, 2, 7, 1, 5, 0, 1}}, rows{{2, 7, -top}, {3, 7, top - 1}, {6, 7, 1}}, true},
		{tradeRows{{1, 3, 2, 7, top, 5, 0, 1}, {2, 6, 2, 7, 1, 5, 0, 1}}, nil, false},
		{tradeRows{{1, 3, 2, 7, 1, 5, top - 1, 1}, {2, 3, 2, 9, 1, 5, 1, 1}}, rows{{2, 5, top}, {2, 7, -1}, {2, 9, -1}, {3, 5, -top}, {3, 7, 1}, {3, 9, 1}}, true},
		{tradeRows{{1, 3, 2, 7, 1, 5, top, 1}, {2, 3, 2, 9, 1, 5, 1, 1}}, nil, false},
		{tradeRows{{1, 3, 2, 7, 1, 5, top, 1}, {2, 6, 2, 7, 1, 5, 1, 1}}, nil, false},
		{tradeRows{{1, 3, 2, 7, 1, 5, top, 1}, {2, 3, 6, 7, 1, 5, 1, 1}}, nil, false},
		// Another instrument, or another holder, has a sum of its own.
		{tradeRows{{1, 3, 2, 7, top, 5, 0, 1}, {2, 3, 2, 9, top, 5, 0, 1}}, rows{{2, 7, -top}, {2, 9, -top}, {3, 7, top}, {3, 9, top}}, true},
		{tradeRows{{1, 3, 2, 7, 1, 5, top, 1}, {2, 3, 2, 7, 1, 6, top, 1}}, rows{{2, 5, top}, {2, 6, top}, {2, 7, -2}, {3, 5, -top}, {3, 6, -top}, {3, 7, 2}}, true},
		{tradeRows{{1, 3, 2, 7, top, 5, top, 1}, {2, 6, 3, 7, top, 5, top, 1}}, rows{{2, 5, top}, {2, 7, -top}, {6, 5, -top}, {6, 7, top}}, true},
		// What all come to counts, and not what some of them come to.
		{tradeRows{{1, 3, 2, 7, top, 5, top, 1}, {2, 3, 2, 7, top, 5, top, 1}, {3, 2, 3, 7, top, 5, top, 1}}, rows{{2, 5, top}, {2, 7, -top}, {3, 5, -top}, {3, 7, top}}, true},
		{tradeRows{{1, 3, 2, 7, top, 5, top, 1}, {2, 3, 2, 7, top, 5, top, 1}, {3, 2, 3, 7, top - 1, 5, top, 1}}, nil, false},
		{tradeRows{{1, 3, 2, 7, top, 5, top, 1}, {2, 3, 2, 7, top, 5, top, 1}, {3, 2, 3, 7, top, 5, top - 1, 1}}, nil, false},
		{tradeRows{{1, 3, 2, 7, top, 5, top, 1}, {2, 3, 2, 7, top, 5, top, 1}, {3, 2, 3, 7, top, 5, top, 1}, {4, 2, 3, 7, top, 5, top, 1}}, nil, true},
	} {
		b := dealBooks(c.trades...)
		checkNetLegs(t, b, allNos(b), c.want.legs(), c.ok)
		checkNetLegsByWords(t, b, allNos(b))
	}
	for back := range impl.MaxTrades + 1 {
		b := openBooks()
		for i := range b.Trades {
			b.Trades[i] = tradeOf([8]int{1 + i, 3, 2, 7, top, 5, top, 1})
			if i < back {
				b.Trades[i].Buyer, b.Trades[i].Seller = 2, 3
			}
		}
		checkNetLegsByWords(t, b, allNos(b))
		if _, ok := impl.NetLegs(b, allNos(b)); ok != (back == impl.MaxTrades/2) {
			t.Errorf("%d of all trades back: %v", back, ok)
		}
	}
}
