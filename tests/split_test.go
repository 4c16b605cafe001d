package tests

import (
	"math"
	"math/big"
	"slices"
	"testing"

	"loop.example/g00110/impl"
)

func wantSplit(b impl.Books, paper int, n int, d int, issuer int) (impl.Books, int, int) {
	instrKind, issuerKind := kindIn(b.Instrs, paper), kindIn(b.Accounts, issuer)
	if instrKind == 0 || issuerKind == 0 {
		return b, 0, impl.BkNone
	}
	if instrKind != impl.Paper || issuerKind != impl.Issuer {
		return b, 0, impl.BkKind
	}
	accounts, amounts, together, ok := wantHeld(b, paper)
	if !ok {
		return b, 0, impl.BkLarge
	}
	if len(accounts) == 0 {
		return b, 0, impl.BkShort
	}
	all, _, ok := wantMulDiv(together, n, d)
	if !ok {
		return b, 0, impl.BkLarge
	}
	shares := wantShares(all, amounts)
	legs := []impl.Leg{}
	for i, account := range accounts {
		legs = append(legs, impl.Leg{Account: account, Instr: paper, Amount: shares[i] - amounts[i]})
	}
	b, code := wantPosted(b, append(legs, impl.Leg{Account: issuer, Instr: paper, Amount: together - all}))
	for i, account := range accounts {
		if code != impl.BkDone {
			return b, 0, code
		}
		scaled := 0
		if b.Lots, scaled = wantScale(b.Lots, account, paper, shares[i]); scaled != impl.LotDone {
			code = impl.BkFull
		}
	}
	return b, all, code
}

// wantShares works out whole shares by exact numbers, and hands what is missing to the most left over, one by one.
func wantShares(total int, weights []int) []int {
	shares, rests := make([]int, len(weights)), make([]int, len(weights))
	for i, weight := range weights {
		shares[i], rests[i], _ = wantMulDiv(total, weight, sumOf(weights))
	}
	for missing := total - sumOf(shares); missing > 0; missing-- {
		most := slices.Index(rests, slices.Max(rests))
		shares[most]++
		rests[most] = -1
	}
	return shares
}

// checkSplit holds a call against the words and against the promise.
func checkSplit(t *testing.T, b impl.Books, c bookCall) {
	t.Helper()
	checkCallByWords(t, b, c)
	checkIsSplit(t, b, c)
}

// checkIsSplit is the promise: behind a split there is just the greatest whole number of pieces, in fair shares, each holder's lots have its new balance and cost what they cost, and nothing else is turned.
func checkIsSplit(t *testing.T, b impl.Books, c bookCall) {
	t.Helper()
	paper, n, d, issuer := c.args[0], c.args[1], c.args[2], c.args[3]
	next, all, code := impl.BookSplit(b, paper, n, d, issuer)
	if code != impl.BkDone {
		return
	}
	accounts, old, together, _ := impl.Held(b, paper)
	exact := new(big.Int).Mul(bigOf(together), bigOf(n))
	if over := exact.Sub(exact, new(big.Int).Mul(bigOf(all), bigOf(d))); over.Sign() < 0 || over.Cmp(bigOf(d)) >= 0 {
		t.Errorf("%v of %v makes %d, which is not the greatest", c, b, all)
	}
	if _, _, told, ok := impl.Held(next, paper); !ok || told != all {
		t.Errorf("behind %v of %v all together are %d, %v; want %d", c, b, told, ok, all)
	}
	shares, _ := impl.Shares(all, old)
	turns := map[[2]int][3]int{{issuer, paper}: {together - all, 0, 0}}
	for i, account := range accounts {
		checkOneShare(t, c, all, together, old[i], impl.BalOf(next.Bals, account, paper))
		more, cost := shares[i]-old[i], 0
		if shares[i] == 0 {
			cost = -impl.LotsCost(b.Lots, account, paper)
		}
		turns[[2]int{account, paper}] = [3]int{more, more, cost}
	}
	for _, a := range b.Accounts {
		for _, i := range b.Instrs {
			checkTurnedBy(t, b, next, c, a.No, i.No, turns[[2]int{a.No, i.No}])
			if i.No != paper && !slices.Equal(impl.LotsOf(next.Lots, a.No, i.No), impl.LotsOf(b.Lots, a.No, i.No)) {
				t.Errorf("%v of %v turns lots of %d of %d", c, b, i.No, a.No)
			}
		}
	}
	want := cloneBooks(b)
	want.Bals, want.Lots = next.Bals, next.Lots
	if !sameBooks(next, want) {
		t.Errorf("%v of %v turns more than balances and lots: %v", c, b, next)
	}
}

// checkOneShare wants a new balance that is not off its exact share of all by one or more.
func checkOneShare(t *testing.T, c bookCall, all int, together int, old int, balance int) {
	t.Helper()
	off := new(big.Int).Mul(bigOf(balance), bigOf(together))
	off.Sub(off, new(big.Int).Mul(bigOf(all), bigOf(old)))
	if off.CmpAbs(bigOf(together)) >= 0 {
		t.Errorf("%v: %d of %d are %d of %d, which is off by one or more", c, old, together, balance, all)
	}
}

// lotsOfSeven are the lots of paper 7 of account 2 in someBooks, with other pieces and costs; those without pieces are gone.
func lotsOfSeven(pieces [3]int, costs [3]int) lotRows {
	list := lotRows{}
	for i, no := range []int{1, 4, 9} {
		if pieces[i] > 0 {
			list = append(list, [5]int{2, 7, no, pieces[i], costs[i]})
		}
	}
	return list
}

// sevenSplit is a split of paper 7 in someBooks, of which account 2 has 20 pieces in three lots and account 3 has 5 in one that cost 60.
type sevenSplit struct {
	n, d   int
	all    int
	pieces [3]int
	costs  [3]int
	three  int
}

func sevenSplits() []sevenSplit {
	costs := [3]int{101, 50, 20}
	return []sevenSplit{
		// More pieces: twice as many, half as many again, and by parts that leave something over.
		{2, 1, 50, [3]int{20, 6, 14}, costs, 10},
		{3, 2, 37, [3]int{15, 5, 10}, costs, 7},
		{26, 25, 26, [3]int{11, 3, 7}, costs, 5},
		{11, 10, 27, [3]int{11, 3, 8}, costs, 5},
		{7, 3, 58, [3]int{23, 7, 16}, costs, 12},
		{1000000, 1, 25000000, [3]int{10000000, 3000000, 7000000}, costs, 5000000},
		// As many.
		{1, 1, 25, [3]int{10, 3, 7}, costs, 5},
		{7, 7, 25, [3]int{10, 3, 7}, costs, 5},
		{1000000, 1000000, 25, [3]int{10, 3, 7}, costs, 5},
		{1000000, 999999, 25, [3]int{10, 3, 7}, costs, 5},
		// Fewer: lots without a piece hand their costs to the first one that is left.
		{1, 2, 12, [3]int{5, 2, 3}, costs, 2},
		{24, 25, 24, [3]int{9, 3, 7}, costs, 5},
		{999999, 1000000, 24, [3]int{9, 3, 7}, costs, 5},
		{1, 5, 5, [3]int{2, 1, 1}, costs, 1},
		{1, 8, 3, [3]int{1, 0, 1}, [3]int{151, 0, 20}, 1},
		{1, 10, 2, [3]int{1, 0, 1}, [3]int{151, 0, 20}, 0},
		{2, 25, 2, [3]int{1, 0, 1}, [3]int{151, 0, 20}, 0},
		{1, 25, 1, [3]int{1, 0, 0}, [3]int{171, 0, 0}, 0},
		// None.
		{1, 26, 0, [3]int{}, [3]int{}, 0},
		{1, 1000000, 0, [3]int{}, [3]int{}, 0},
	}
}

func TestP9Split(t *testing.T) {
	b := someBooks()
	for _, c := range sevenSplits() {
		for _, issuer := range []int{1, 8} {
			three := lotRows{}
			if c.three > 0 {
				three = lotRows{{3, 7, 3, c.three, 60}}
			}
			want := withBal(b, 2, 7, c.pieces[0]+c.pieces[1]+c.pieces[2], lotsOfSeven(c.pieces, c.costs))
			want = withBal(want, 3, 7, c.three, three)
			want = withBal(want, issuer, 7, amountIn(b.Bals, issuer, 7)+25-c.all, nil)
			checkCall(t, b, splitCall(7, c.n, c.d, issuer), want, c.all, impl.BkDone)
			checkSplit(t, b, splitCall(7, c.n, c.d, issuer))
		}
	}
	// Written out: the desk keeps its two pieces, trades stay as they were, and so does the number of the last lot.
	want := someBooks()
	want.Bals = rows{{1, 5, -500}, {1, 7, -27}, {1, 9, -4}, {2, 5, 300}, {2, 7, 30}, {2, 9, 4}, {3, 5, 150}, {3, 7, 7},
		{4, 5, 50}, {4, 6, -30}, {4, 7, 2}, {6, 6, 30}, {8, 7, -12}}.bals()
	want.Lots = lotRows{{2, 7, 1, 15, 101}, {2, 7, 4, 5, 50}, {2, 7, 9, 10, 20}, {2, 9, 2, 4, 0}, {3, 7, 3, 7, 60}}.lots()
	checkCall(t, b, splitCall(7, 3, 2, 8), want, 37, impl.BkDone)
	want.Bals = rows{{1, 5, -500}, {1, 7, -2}, {1, 9, -4}, {2, 5, 300}, {2, 9, 4}, {3, 5, 150},
		{4, 5, 50}, {4, 6, -30}, {4, 7, 2}, {6, 6, 30}}.bals()
	want.Lots = lotRows{{2, 9, 2, 4, 0}}.lots()
	checkCall(t, b, splitCall(7, 1, 26, 1), want, 0, impl.BkDone)
	// The issuer has some behind it, where it lacked none.
	want.Bals = rows{{1, 5, -500}, {1, 7, -27}, {1, 9, -4}, {2, 5, 300}, {2, 9, 4}, {3, 5, 150},
		{4, 5, 50}, {4, 6, -30}, {4, 7, 2}, {6, 6, 30}, {8, 7, 25}}.bals()
	checkCall(t, b, splitCall(7, 3, 100, 8), want, 0, impl.BkDone)
	// The issuer lacks nothing any more.
	none := withBal(withBal(b, 4, 7, 0, nil), 1, 7, -25, nil)
	want = withBal(withBal(withBal(none, 1, 7, 0, nil), 2, 7, 0, nil), 3, 7, 0, nil)
	checkCall(t, none, splitCall(7, 1, 26, 1), want, 0, impl.BkDone)
}

func TestP9SplitOfOneHolder(t *testing.T) {
	b := someBooks()
	for _, c := range [][3]int{{2, 1, 8}, {3, 2, 6}, {5, 4, 5}, {7, 4, 7}, {1, 1, 4}, {3, 4, 3}, {1, 2, 2}, {1, 3, 1}, {1, 4, 1}, {2, 9, 0}, {1, 5, 0}} {
		want := withBal(withBal(b, 2, 9, c[2], lotRows{{2, 9, 2, c[2], 0}}), 1, 9, -c[2], nil)
		if c[2] == 0 {
			want = withBal(withBal(b, 2, 9, 0, nil), 1, 9, 0, nil)
		}
		checkCall(t, b, splitCall(9, c[0], c[1], 1), want, c[2], impl.BkDone)
		checkSplit(t, b, splitCall(9, c[0], c[1], 1))
	}
}

// Holders with as many pieces each: those with the lower numbers get what is left over.
func TestP9SplitOfLikeBalances(t *testing.T) {
	for _, c := range []struct {
		old   []int
		n, d  int
		all   int
		whose []int
	}{
		{[]int{3, 3, 3}, 4, 3, 12, []int{4, 4, 4}},
		{[]int{3, 3, 3}, 10, 9, 10, []int{4, 3, 3}},
		{[]int{3, 3, 3}, 11, 9, 11, []int{4, 4, 3}},
		{[]int{3, 3, 3}, 1, 2, 4, []int{2, 1, 1}},
		{[]int{3, 3, 3}, 2, 9, 2, []int{1, 1, 0}},
		{[]int{1, 1, 1}, 1, 2, 1, []int{1, 0, 0}},
		{[]int{1, 1, 1}, 1, 3, 1, []int{1, 0, 0}},
		{[]int{1, 1, 1}, 1, 4, 0, []int{0, 0, 0}},
		{[]int{1, 1, 1}, 2, 3, 2, []int{1, 1, 0}},
		{[]int{5, 2, 5, 2}, 1, 2, 7, []int{3, 1, 2, 1}},
		{[]int{0, 5, 0, 5}, 1, 2, 5, []int{0, 3, 0, 2}},
		{[]int{1, 9}, 1, 5, 2, []int{0, 2}},
		{[]int{9, 1}, 1, 5, 2, []int{2, 0}},
		{[]int{1, 1, 8}, 1, 10, 1, []int{0, 0, 1}},
		// Account 2 would have just 11 of 20.9, and 10.53 of the 20 that there are: Shares make it 10.
		{[]int{50, 22, 23}, 11, 50, 20, []int{10, 5, 5}},
	} {
		b := heldBooks(c.old...)
		want := b
		for i, amount := range c.whose {
			lots := lotRows{}
			if amount > 0 {
				lots = lotRows{{2 + 2*i, 7, 1 + i, amount, 10 * (1 + i)}}
			}
			want = withBal(want, 2+2*i, 7, amount, lots)
		}
		want = withBal(want, 1, 7, amountIn(b.Bals, 1, 7)+sumOf(c.old)-c.all, nil)
		checkCall(t, b, splitCall(7, c.n, c.d, 1), want, c.all, impl.BkDone)
		checkSplit(t, b, splitCall(7, c.n, c.d, 1))
		checkSplit(t, b, splitCall(7, c.n, c.d, 3))
	}
	// Nineteen holders with ten each, some of them in two lots.
	for _, rate := range [][3]int{{1, 3, 63}, {1, 20, 9}, {1, 19, 10}, {1, 10, 19}, {1, 11, 17}, {3, 2, 285}, {191, 190, 191}, {1, 190, 1}, {1, 191, 0}} {
		checkSplit(t, fullBooks(), splitCall(1, rate[0], rate[1], 20))
		if _, all, code := impl.BookSplit(fullBooks(), 1, rate[0], rate[1], 20); all != rate[2] || code != impl.BkDone {
			t.Errorf("full books split %v: %d, %d", rate, all, code)
		}
	}
}

func TestP9SplitOfWhatIsNotThere(t *testing.T) {
	for _, c := range []bookCall{
		splitCall(8, 2, 1, 1), splitCall(7, 2, 1, 7), splitCall(8, 2, 1, 7), splitCall(1000, 2, 1, 1), splitCall(7, 2, 1, 1000), splitCall(1, 1, 1, 1),
		// What is of a wrong kind, or held by nobody, is told only where both are there.
		splitCall(8, 2, 1, 2), splitCall(5, 2, 1, 7), splitCall(8, 2, 1, 4), splitCall(6, 1, 1000000, 9),
	} {
		checkRefusal(t, someBooks(), c, impl.BkNone)
		checkRefusal(t, impl.BooksNew(), c, impl.BkNone)
	}
	checkRefusal(t, farBooks(), splitCall(1, 2, 1, 5), impl.BkNone)
	checkRefusal(t, farBooks(), splitCall(2, 2, 1, 2), impl.BkNone)
}

func TestP9SplitOfWrongKinds(t *testing.T) {
	for _, c := range []bookCall{
		splitCall(5, 2, 1, 1), splitCall(6, 1, 2, 8), splitCall(7, 2, 1, 2), splitCall(7, 2, 1, 3), splitCall(7, 2, 1, 4), splitCall(9, 1, 1, 5), splitCall(5, 2, 1, 4),
	} {
		checkRefusal(t, someBooks(), c, impl.BkKind)
	}
	// They come ahead of what is too large and of what nobody has.
	far := farBooks()
	checkRefusal(t, far, splitCall(1, 2, 1, 1), impl.BkKind)
	checkRefusal(t, far, splitCall(1000, 2, 1, 2), impl.BkKind)
	none := heldBooks(0, 0)
	checkRefusal(t, none, splitCall(5, 2, 1, 1), impl.BkKind)
	checkRefusal(t, none, splitCall(7, 2, 1, 2), impl.BkKind)
	checkRefusal(t, heldBooks(top), splitCall(7, 2, 1, 2), impl.BkKind)
}

func TestP9SplitOfWhatNobodyHas(t *testing.T) {
	for _, rate := range [][2]int{{1, 1}, {2, 1}, {1, 2}, {1000000, 1}, {1, 1000000}} {
		checkRefusal(t, heldBooks(0, 0), splitCall(7, rate[0], rate[1], 1), impl.BkShort)
		checkRefusal(t, heldBooks(5, 7), splitCall(6, rate[0], rate[1], 1), impl.BkShort)
		// A desk, a rounder and issuers have and lack some.
		b := someBooks()
		b.Bals, b.Lots, b.Trades = rows{{1, 7, 12}, {4, 7, -20}, {5, 7, 15}, {8, 7, -7}}.bals(), nil, nil
		checkRefusal(t, b, splitCall(7, rate[0], rate[1], 1), impl.BkShort)
		checkRefusal(t, b, splitCall(7, rate[0], rate[1], 8), impl.BkShort)
		checkRefusal(t, b, splitCall(9, rate[0], rate[1], 8), impl.BkShort)
	}
	// What was split into nothing nobody has.
	gone, _, _ := impl.BookSplit(someBooks(), 7, 1, 26, 1)
	checkRefusal(t, gone, splitCall(7, 1000000, 1, 1), impl.BkShort)
}

func TestP9SplitThatIsTooLarge(t *testing.T) {
	// All together are just an amount, or are none: whatever would come of it.
	for _, amounts := range [][]int{{top}, {top - 1, 1}, {1, top - 2, 1}} {
		b := heldBooks(amounts...)
		checkCall(t, b, splitCall(7, 1, 1, 1), b, top, impl.BkDone)
		checkCall(t, b, splitCall(7, 1000000, 1000000, 1), b, top, impl.BkDone)
		checkSplit(t, b, splitCall(7, 1, 2, 1))
		checkRefusal(t, b, splitCall(7, 2, 1, 1), impl.BkLarge)
		checkRefusal(t, b, splitCall(7, 1000000, 999999, 1), impl.BkLarge)
		checkRefusal(t, b, splitCall(7, 1000000, 1, 1), impl.BkLarge)
	}
	for _, amounts := range [][]int{{top, 1}, {top, top}, {1, top - 1, 1}} {
		for _, rate := range [][2]int{{1, 1}, {1, 2}, {1, 1000000}, {2, 1}} {
			checkRefusal(t, heldBooks(amounts...), splitCall(7, rate[0], rate[1], 1), impl.BkLarge)
		}
	}
	checkRefusal(t, farBooks(), splitCall(1, 1, 3, 2), impl.BkLarge)
	// What comes is just an amount, or would be one more.
	for _, c := range []struct {
		have, n, d int
		all, code  int
	}{
		{top / 2, 2, 1, top, impl.BkDone},
		{top/2 + 1, 2, 1, 0, impl.BkLarge},
		{top / 1000000, 1000000, 1, top, impl.BkDone},
		{top/1000000 + 1, 1000000, 1, 0, impl.BkLarge},
		{666666666666667, 3, 2, top, impl.BkDone},
		{666666666666668, 3, 2, 0, impl.BkLarge},
		{top, 1, 1000000, top / 1000000, impl.BkDone},
		{top - 1, 1, 1000000, top/1000000 - 1, impl.BkDone},
		{999999, 1, 1000000, 0, impl.BkDone},
		{1000000, 1, 1000000, 1, impl.BkDone},
	} {
		for _, b := range []impl.Books{heldBooks(c.have), heldBooks(c.have-1, 1), heldBooks(1, c.have-2, 1)} {
			checkSplit(t, b, splitCall(7, c.n, c.d, 1))
			if c.code != impl.BkDone {
				checkRefusal(t, b, splitCall(7, c.n, c.d, 1), c.code)
				continue
			}
			if next, all, code := impl.BookSplit(b, 7, c.n, c.d, 1); all != c.all || code != c.code {
				t.Errorf("%d pieces split by %d and %d: %v, %d, %d", c.have, c.n, c.d, next, all, code)
			}
		}
	}
}

// issuedBooks have a holder 2 with ten pieces of paper 7, an issuer 1 that has so many (lacks, below 0), and a desk 3 that has what is left; issuer 4 has none.
func issuedBooks(issuer int) impl.Books {
	b := impl.Books{Accounts: chartOf(1, impl.Issuer, 2, impl.Holder, 3, impl.Dealer, 4, impl.Issuer), Instrs: instrsOf(5, impl.Cash, 7, impl.Paper), Lot: 3}
	b.Lots = lotRows{{2, 7, 1, 10, 33}}.lots()
	b.Bals = balWith(balWith(rows{{2, 7, 10}}.bals(), 1, 7, issuer), 3, 7, -issuer-10)
	return b
}

// What the issuer would lack, or have, is just an amount, or is none.
func TestP9SplitForAnIssuerWithMuch(t *testing.T) {
	for _, c := range []struct {
		issuer, n, d int
		code         int
	}{
		{-top, 1, 1, impl.BkDone},
		{-top, 11, 10, impl.BkLarge},
		{-top, 2, 1, impl.BkLarge},
		{-top, 9, 10, impl.BkDone},
		{-top + 1, 11, 10, impl.BkDone},
		{-top + 1, 12, 10, impl.BkLarge},
		{-top + 10, 2, 1, impl.BkDone},
		{-top + 10, 21, 10, impl.BkLarge},
		{top - 10, 1, 11, impl.BkDone},
		{top - 10, 1, 2, impl.BkDone},
		{top - 10, 2, 1, impl.BkDone},
	} {
		b := issuedBooks(c.issuer)
		checkSplit(t, b, splitCall(7, c.n, c.d, 1))
		checkSplit(t, b, splitCall(7, c.n, c.d, 4))
		if c.code != impl.BkDone {
			checkRefusal(t, b, splitCall(7, c.n, c.d, 1), c.code)
		}
		if _, _, code := impl.BookSplit(b, 7, c.n, c.d, 1); code != c.code {
			t.Errorf("an issuer with %d: %d", c.issuer, code)
		}
		// Another issuer has room.
		if _, _, code := impl.BookSplit(b, 7, c.n, c.d, 4); code != impl.BkDone {
			t.Errorf("the other issuer beside one with %d: %d", c.issuer, code)
		}
	}
	// An issuer with all that can be gets none back.
	much := issuedBooks(0)
	much.Accounts = chartOf(1, impl.Issuer, 2, impl.Holder, 3, impl.Dealer, 4, impl.Issuer, 5, impl.Dealer)
	much.Bals = rows{{1, 7, top}, {2, 7, 10}, {3, 7, -top}, {5, 7, -10}}.bals()
	checkRefusal(t, much, splitCall(7, 9, 10, 1), impl.BkLarge)
	checkRefusal(t, much, splitCall(7, 1, 11, 1), impl.BkLarge)
	checkCall(t, much, splitCall(7, 1, 1, 1), much, 10, impl.BkDone)
	checkSplit(t, much, splitCall(7, 11, 10, 1))
	checkSplit(t, much, splitCall(7, 9, 10, 4))
}

// manyLotBooks have holders 2, 4 and so on with so many lots of paper 7, of three pieces each that cost ten.
func manyLotBooks(counts ...int) impl.Books {
	amounts := []int{}
	for _, count := range counts {
		amounts = append(amounts, 3*count)
	}
	b := heldBooks(amounts...)
	b.Lots = nil
	for i, count := range counts {
		b.Lots = append(b.Lots, lotsOfOne(count, 2+2*i, 7, 3, 10)...)
	}
	return b
}

// Of one holder at most MaxWeights lots are scaled; the holders ahead of it were done by then, and nothing is turned.
func TestP9SplitOfManyLots(t *testing.T) {
	for _, rate := range [][2]int{{2, 1}, {1, 1}, {1, 2}, {5, 3}, {1, 100}, {1, 1000}} {
		for _, counts := range [][]int{{40}, {40, 40, 40}, {1, 40, 2}, {39, 40}, {40, 0, 1}} {
			b := manyLotBooks(counts...)
			checkSplit(t, b, splitCall(7, rate[0], rate[1], 1))
			if next, _, code := impl.BookSplit(b, 7, rate[0], rate[1], 1); code != impl.BkDone || rate[0] > rate[1] && len(next.Lots) != len(b.Lots) {
				t.Errorf("%v lots split by %v: %v, %d", counts, rate, next, code)
			}
		}
		for _, counts := range [][]int{{41}, {120}, {41, 1}, {1, 41}, {40, 39, 41}, {2, 41, 2}, {60, 60}, {1, 0, 0, 41, 0}} {
			checkRefusal(t, manyLotBooks(counts...), splitCall(7, rate[0], rate[1], 1), impl.BkFull)
			// Lots of another paper do not count.
			checkRefusal(t, manyLotBooks(counts...), splitCall(6, rate[0], rate[1], 1), impl.BkShort)
		}
	}
	// Forty lots of each of two papers of one holder.
	two := manyLotBooks(40)
	two = withBal(withBal(two, 1, 6, -120, nil), 2, 6, 120, nil)
	two.Lots = slices.Concat(lotsOfOne(40, 2, 6, 3, 9), two.Lots)
	checkSplit(t, two, splitCall(6, 7, 5, 1))
	checkSplit(t, two, splitCall(7, 5, 7, 1))
	// What is too large is the part that is named first.
	large := manyLotBooks(41)
	large.Bals = rows{{1, 7, -top}, {2, 7, 123}, {3, 7, top - 123}}.bals()
	large.Accounts = chartOf(1, impl.Issuer, 2, impl.Holder, 3, impl.Dealer, 4, impl.Issuer)
	checkRefusal(t, large, splitCall(7, 2, 1, 1), impl.BkLarge)
	checkRefusal(t, large, splitCall(7, 2, 1, 4), impl.BkFull)
	checkRefusal(t, large, splitCall(7, 1, 1, 1), impl.BkFull)
	long := manyLotBooks(41)
	long = withBal(withBal(long, 2, 7, top, nil), 1, 7, -top, nil)
	long.Lots = append(lotsOfOne(40, 2, 7, 3, 10), impl.Lot{Account: 2, Instr: 7, No: 400, Qty: top - 120, Cost: 5})
	checkRefusal(t, long, splitCall(7, 2, 1, 1), impl.BkLarge)
	checkRefusal(t, long, splitCall(7, 1, 1, 1), impl.BkFull)
}

// Costs of all that can be stay with the pieces, and no new lot is needed where there is none.
func TestP9SplitKeepsCosts(t *testing.T) {
	b := heldBooks(4, 8)
	b.Lots = lotRows{{2, 7, 1, 1, top - 3}, {2, 7, 2, 1, 2}, {2, 7, 500, 2, 1}, {4, 7, 3, 8, top}}.lots()
	want := withBal(withBal(b, 2, 7, 1, lotRows{{2, 7, 500, 1, top}}), 4, 7, 2, lotRows{{4, 7, 3, 2, top}})
	want = withBal(want, 1, 7, 5, nil)
	checkCall(t, b, splitCall(7, 1, 4, 1), want, 3, impl.BkDone)
	for _, lot := range []int{500, lastNo} {
		for _, rate := range [][2]int{{3, 1}, {5, 4}, {1, 2}, {1, 3}, {1, 4}, {1, 6}, {1, 12}, {1, 13}} {
			checkSplit(t, lotted(b, lot), splitCall(7, rate[0], rate[1], 1))
			checkSplit(t, lotted(b, lot), splitCall(7, rate[0], rate[1], 3))
		}
	}
	// Where no piece is left the cost is gone.
	want = withBal(withBal(withBal(b, 2, 7, 0, nil), 4, 7, 0, nil), 1, 7, 8, nil)
	checkCall(t, b, splitCall(7, 1, 13, 1), want, 0, impl.BkDone)
}

// A balance that was not there, where just one is missing to all that can be.
func TestP9SplitWhereBalancesAreFull(t *testing.T) {
	full := fullBooks()
	full.Trades = nil
	full.Accounts[18].Kind = impl.Issuer
	full.Lots = slices.DeleteFunc(full.Lots, func(l impl.Lot) bool { return l.Account == 19 })
	checkSplit(t, full, splitCall(1, 3, 2, 19))
	one := withBal(withBal(full, 19, 1, 0, nil), 20, 1, -180, nil)
	checkSplit(t, one, splitCall(1, 3, 2, 19))
	if next, all, code := impl.BookSplit(one, 1, 3, 2, 19); len(one.Bals) != impl.MaxBals-1 || all != 270 || code != impl.BkDone || len(next.Bals) != impl.MaxBals {
		t.Errorf("the last balance for which there is room: %v, %d, %d", next, all, code)
	}
}

func TestP9SplitThereAndBack(t *testing.T) {
	b := someBooks()
	more, all, code := impl.BookSplit(b, 7, 7, 1, 1)
	if all != 175 || code != impl.BkDone {
		t.Errorf("seven for one: %d, %d", all, code)
	}
	checkCall(t, more, splitCall(7, 1, 7, 1), b, 25, impl.BkDone)
	// A part is lost for good.
	fewer, _, _ := impl.BookSplit(b, 7, 1, 2, 1)
	back, all, code := impl.BookSplit(fewer, 7, 2, 1, 1)
	if all != 24 || code != impl.BkDone || impl.BalOf(back.Bals, 1, 7) != -26 || !impl.BooksOk(back) {
		t.Errorf("there and back: %v, %d, %d", back, all, code)
	}
}

func TestP9SplitOfBadNumbers(t *testing.T) {
	wrongRates := []int{0, -1, -2, -1000000, 1000001, 1000002, 2000000, top, top + 1, math.MaxInt, math.MinInt}
	for _, b := range []impl.Books{{}, someBooks(), farBooks(), heldBooks(0, 0), heldBooks(top, 1)} {
		for _, given := range []bookCall{splitCall(7, 3, 2, 1), splitCall(8, 1, 1, 7), splitCall(5, 1000000, 1000000, 2)} {
			for _, place := range []int{1, 2} {
				for _, x := range wrongRates {
					c := given
					c.args[place] = x
					checkBad(t, b, c)
				}
			}
			for _, place := range []int{0, 3} {
				for _, x := range wrongNumbers() {
					c := given
					c.args[place] = x
					checkBad(t, b, c)
				}
			}
		}
	}
	if impl.MaxRatio != 1000000 {
		t.Error("the limit", impl.MaxRatio)
	}
}

func TestP9SplitsByTheWords(t *testing.T) {
	for _, b := range append(rightBooks(), heldBooks(3, 9, 1, 5), heldBooks(top-5, 5), manyLotBooks(40, 3), manyLotBooks(3, 41)) {
		for _, paper := range []int{0, 1, 5, 6, 7, 8, 9, 1000} {
			for _, issuer := range []int{1, 2, 3, 4, 8, 20, 1001} {
				for _, rate := range [][2]int{{1, 1}, {2, 1}, {3, 2}, {2, 3}, {1, 7}, {1, 26}, {1000000, 999999}, {1000000, 1}, {1000001, 1}, {1, 0}} {
					checkSplit(t, b, splitCall(paper, rate[0], rate[1], issuer))
				}
			}
		}
	}
}

// All small holdings by all small rates.
func TestP9SmallSplitsByTheWords(t *testing.T) {
	for first := range 6 {
		for second := range 5 {
			for third := range 4 {
				b := heldBooks(first, second, third)
				for n := 1; n <= 7; n++ {
					for d := 1; d <= 7; d++ {
						checkSplit(t, b, splitCall(7, n, d, 3))
					}
				}
			}
		}
	}
}
