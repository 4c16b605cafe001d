package tests

import (
	"math"
	"slices"
	"testing"

	"loop.example/g00110/impl"
)

// wantFx takes the arguments in order: holder, dealer, from, to, amount, num, den.
func wantFx(b impl.Books, a [7]int) (impl.Books, int, int) {
	holder, dealer := kindIn(b.Accounts, a[0]), kindIn(b.Accounts, a[1])
	from, to := kindIn(b.Instrs, a[2]), kindIn(b.Instrs, a[3])
	if holder == 0 || dealer == 0 || from == 0 || to == 0 {
		return b, 0, impl.BkNone
	}
	if holder != impl.Holder || dealer != impl.Dealer || from != impl.Cash || to != impl.Cash || a[2] == a[3] {
		return b, 0, impl.BkKind
	}
	got, _, ok := wantMulDiv(a[4], a[5], a[6])
	if !ok {
		return b, 0, impl.BkLarge
	}
	b, code := wantPosted(b, rows{{a[0], a[2], -a[4]}, {a[1], a[2], a[4]}, {a[1], a[3], -got}, {a[0], a[3], got}}.legs())
	return b, got, code
}

// changed are books behind money that was changed: the desk has what the holder gave, and gave what it got.
func changed(b impl.Books, holder int, dealer int, from int, to int, amount int, got int) impl.Books {
	return paid(paid(b, holder, dealer, from, amount), dealer, holder, to, got)
}

// checkFx holds a call against the words and against the promise.
func checkFx(t *testing.T, b impl.Books, c bookCall) {
	t.Helper()
	checkCallByWords(t, b, c)
	checkChanged(t, b, c)
}

// checkChanged is the promise: the dealer has just what the holder gave, and gave just MulDiv's first answer; no other balance is turned, and nothing else.
func checkChanged(t *testing.T, b impl.Books, c bookCall) {
	t.Helper()
	a := c.args
	next, got, code := impl.BookFx(b, a[0], a[1], a[2], a[3], a[4], a[5], a[6])
	if code != impl.BkDone {
		return
	}
	if q, _, ok := impl.MulDiv(a[4], a[5], a[6]); !ok || q != got {
		t.Errorf("%v of %v tells %d; MulDiv %d, %v", c, b, got, q, ok)
	}
	turns := map[[2]int]int{{a[0], a[2]}: -a[4], {a[1], a[2]}: a[4], {a[1], a[3]}: -got, {a[0], a[3]}: got}
	for _, account := range b.Accounts {
		for _, instr := range b.Instrs {
			checkTurnedBy(t, b, next, c, account.No, instr.No, [3]int{turns[[2]int{account.No, instr.No}], 0, 0})
		}
	}
	want := cloneBooks(b)
	want.Bals = next.Bals
	if !sameBooks(next, want) {
		t.Errorf("%v of %v turns more than balances: %v", c, b, next)
	}
}

// Holder 2 has 300 of cash 5 and none of 6; the desk is 4, which has 50 of 5 and lacks 30 of 6.
func TestP9Fx(t *testing.T) {
	b := someBooks()
	for _, c := range []struct {
		amount, num, den int
		got              int
	}{
		// A rate above one, with something left over and with nothing.
		{100, 7, 3, 233}, {99, 7, 3, 231}, {1, 7, 3, 2}, {1, 3, 1, 3}, {300, 1000, 7, 42857}, {7, 9, 8, 7}, {8, 9, 8, 9},
		// Below one.
		{100, 3, 7, 42}, {98, 3, 7, 42}, {97, 3, 7, 41}, {300, 1, 300, 1}, {299, 2, 300, 1}, {3, 1, 3, 1}, {5, 1, 3, 1},
		// Just one, in whatever terms.
		{1, 1, 1, 1}, {300, 1, 1, 300}, {7, 5, 5, 7}, {250, top, top, 250},
		// So little that nothing is got for it.
		{1, 1, 2, 0}, {2, 1, 3, 0}, {299, 1, 300, 0}, {1, 1, top, 0}, {300, 1, top, 0}, {1, top - 1, top, 0},
	} {
		want := changed(b, 2, 4, 5, 6, c.amount, c.got)
		checkCall(t, b, fxCall(2, 4, 5, 6, c.amount, c.num, c.den), want, c.got, impl.BkDone)
		checkFx(t, b, fxCall(2, 4, 5, 6, c.amount, c.num, c.den))
	}
	// Written out: another holder, the other way round; a balance that is gone, and one that was not there.
	want := someBooks()
	want.Bals = rows{{1, 5, -500}, {1, 7, -27}, {1, 9, -4}, {2, 5, 300}, {2, 7, 20}, {2, 9, 4}, {3, 5, 150}, {3, 7, 5},
		{4, 5, 5}, {4, 7, 2}, {6, 5, 45}}.bals()
	checkCall(t, b, fxCall(6, 4, 6, 5, 30, 3, 2), want, 45, impl.BkDone)
	want.Bals = rows{{1, 5, -500}, {1, 7, -27}, {1, 9, -4}, {2, 6, 100}, {2, 7, 20}, {2, 9, 4}, {3, 5, 150}, {3, 7, 5},
		{4, 5, 350}, {4, 6, -130}, {4, 7, 2}, {6, 6, 30}}.bals()
	checkCall(t, b, fxCall(2, 4, 5, 6, 300, 1, 3), want, 100, impl.BkDone)
	// The desk lacks more than it had.
	want.Bals = rows{{1, 5, -500}, {1, 7, -27}, {1, 9, -4}, {2, 5, 300}, {2, 7, 20}, {2, 9, 4}, {3, 5, 150}, {3, 7, 5},
		{4, 5, -950}, {4, 6, -20}, {4, 7, 2}, {6, 5, 1000}, {6, 6, 20}}.bals()
	checkCall(t, b, fxCall(6, 4, 6, 5, 10, 100, 1), want, 1000, impl.BkDone)
}

// Where nothing is got, what was given is given all the same.
func TestP9FxOfNothing(t *testing.T) {
	b := someBooks()
	want := withBal(withBal(b, 6, 6, 0, nil), 4, 6, 0, nil)
	checkCall(t, b, fxCall(6, 4, 6, 5, 30, 1, 31), want, 0, impl.BkDone)
	checkCall(t, b, fxCall(6, 4, 6, 5, 30, 1, 30), changed(b, 6, 4, 6, 5, 30, 1), 1, impl.BkDone)
	// No balance of nothing is there behind it.
	none := impl.Books{Accounts: chartOf(1, impl.Issuer, 2, impl.Holder, 3, impl.Dealer), Instrs: instrsOf(5, impl.Cash, 6, impl.Cash)}
	none.Bals = rows{{1, 5, -1}, {2, 5, 1}}.bals()
	want = none
	want.Bals = rows{{1, 5, -1}, {3, 5, 1}}.bals()
	checkCall(t, none, fxCall(2, 3, 5, 6, 1, 1, 2), want, 0, impl.BkDone)
}

func TestP9FxOfWhatIsNotThere(t *testing.T) {
	for _, c := range []bookCall{
		fxCall(7, 4, 5, 6, 1, 1, 1), fxCall(2, 7, 5, 6, 1, 1, 1), fxCall(2, 4, 8, 6, 1, 1, 1), fxCall(2, 4, 5, 8, 1, 1, 1), fxCall(1000, 4, 5, 6, 1, 1, 1),
		fxCall(2, 1000, 5, 6, 1, 1, 1), fxCall(2, 4, 1000, 6, 1, 1, 1), fxCall(2, 4, 5, 1, 1, 1, 1),
		// What is of a wrong kind, or one, too large or short, is told only where all are there.
		fxCall(1, 7, 5, 6, 1, 1, 1), fxCall(7, 2, 5, 6, 1, 1, 1), fxCall(2, 4, 7, 8, 1, 1, 1), fxCall(2, 4, 8, 7, 1, 1, 1), fxCall(2, 4, 8, 8, 1, 1, 1),
		fxCall(7, 7, 8, 8, 1, 1, 1), fxCall(7, 4, 5, 6, 2, top, 1), fxCall(2, 4, 5, 8, 301, 1, 1), fxCall(4, 2, 5, 8, 2, top, 1),
	} {
		checkRefusal(t, someBooks(), c, impl.BkNone)
		checkRefusal(t, impl.BooksNew(), c, impl.BkNone)
	}
	checkRefusal(t, fullBooks(), fxCall(1, 21, 7, 8, 1, 1, 1), impl.BkNone)
}

func TestP9FxOfWrongKinds(t *testing.T) {
	for _, c := range []bookCall{
		fxCall(1, 4, 5, 6, 1, 1, 1), fxCall(4, 4, 5, 6, 1, 1, 1), fxCall(5, 4, 5, 6, 1, 1, 1), fxCall(2, 1, 5, 6, 1, 1, 1), fxCall(2, 3, 5, 6, 1, 1, 1),
		fxCall(2, 5, 5, 6, 1, 1, 1), fxCall(2, 2, 5, 6, 1, 1, 1), fxCall(4, 2, 5, 6, 1, 1, 1), fxCall(2, 4, 7, 6, 1, 1, 1), fxCall(2, 4, 5, 7, 1, 1, 1),
		fxCall(2, 4, 7, 9, 1, 1, 1), fxCall(2, 4, 5, 5, 1, 1, 1), fxCall(2, 4, 6, 6, 1, 1, 1), fxCall(2, 4, 7, 7, 1, 1, 1), fxCall(1, 1, 7, 7, 1, 1, 1),
		// They come ahead of what is too large and of what is short.
		fxCall(1, 4, 5, 6, 2, top, 1), fxCall(2, 3, 5, 6, 2, top, 1), fxCall(2, 4, 5, 7, top, top, 1), fxCall(2, 4, 5, 5, 301, 1, 1), fxCall(2, 4, 5, 5, 2, top, 1),
		fxCall(2, 4, 9, 5, 5, 1, 1), fxCall(2, 3, 5, 6, 301, 1, 1),
	} {
		checkRefusal(t, someBooks(), c, impl.BkKind)
	}
	checkRefusal(t, fullBooks(), fxCall(1, 20, 7, 8, 1, 1, 1), impl.BkKind)
	checkRefusal(t, fullBooks(), fxCall(1, 2, 7, 8, 1, 1, 1), impl.BkKind)
}

// Just all that the holder has, and one more; what it has of the other cash, or others have, helps it not.
func TestP9FxThatIsShort(t *testing.T) {
	b := someBooks()
	for _, c := range []bookCall{
		fxCall(2, 4, 5, 6, 301, 1, 1), fxCall(3, 4, 5, 6, 151, 1, 1), fxCall(6, 4, 6, 5, 31, 1, 1), fxCall(2, 4, 6, 5, 1, 1, 1), fxCall(6, 4, 5, 6, 1, 1, 1),
		fxCall(6, 4, 5, 6, 1, 1, 2), fxCall(2, 4, 5, 6, 301, 1, 302), fxCall(2, 4, 5, 6, top-50, 1, 1), fxCall(2, 4, 6, 5, top, 1, top),
	} {
		checkRefusal(t, b, c, impl.BkShort)
	}
	for _, c := range []bookCall{fxCall(2, 4, 5, 6, 300, 1, 1), fxCall(3, 4, 5, 6, 150, 1, 1), fxCall(6, 4, 6, 5, 30, 1, 1)} {
		checkFx(t, b, c)
		if _, got, code := c.do(b); got != c.args[4] || code != impl.BkDone {
			t.Errorf("%v: %d, %d", c, got, code)
		}
	}
}

// deskBooks have a holder 2 and a desk 3 with so much of the cashes 5 and 6 (the desk may lack some); issuer 1 lacks what the holder has, issuer 4 what the desk has.
func deskBooks(holder [2]int, dealer [2]int) impl.Books {
	b := impl.Books{Accounts: chartOf(1, impl.Issuer, 2, impl.Holder, 3, impl.Dealer, 4, impl.Issuer), Instrs: instrsOf(5, impl.Cash, 6, impl.Cash)}
	for i, instr := range []int{5, 6} {
		b.Bals = balWith(b.Bals, 1, instr, -holder[i])
		b.Bals = balWith(b.Bals, 2, instr, holder[i])
		b.Bals = balWith(b.Bals, 3, instr, dealer[i])
		b.Bals = balWith(b.Bals, 4, instr, -dealer[i])
	}
	return b
}

// The least and the greatest amounts and rates, products that are just an amount and one more, balances likewise.
func TestP9FxAtTheEdges(t *testing.T) {
	for _, c := range []struct {
		holder, dealer   [2]int
		amount, num, den int
		got, code        int
	}{
		{[2]int{1, 0}, [2]int{0, 0}, 1, 1, 1, 1, impl.BkDone},
		{[2]int{top, 0}, [2]int{0, 0}, top, 1, 1, top, impl.BkDone},
		{[2]int{top, 0}, [2]int{0, 0}, top, top, top, top, impl.BkDone},
		{[2]int{top, 0}, [2]int{0, 0}, top, 1, top, 1, impl.BkDone},
		{[2]int{1, 0}, [2]int{0, 0}, 1, top, 1, top, impl.BkDone},
		{[2]int{top, 0}, [2]int{0, 0}, top - 1, 1, top, 0, impl.BkDone},
		{[2]int{top, 0}, [2]int{0, 0}, top - 1, top, top - 1, top, impl.BkDone},
		// What comes is one more than an amount, or far more; the holder may have enough or not.
		{[2]int{top, 0}, [2]int{0, 0}, top, top, top - 1, 0, impl.BkLarge},
		{[2]int{2, 0}, [2]int{0, 0}, 2, top, 1, 0, impl.BkLarge},
		{[2]int{2, 0}, [2]int{0, 0}, 2, top, 2, top, impl.BkDone},
		{[2]int{2, 0}, [2]int{0, 0}, 2, top/2 + 1, 1, 0, impl.BkLarge},
		{[2]int{2, 0}, [2]int{0, 0}, 2, top / 2, 1, top, impl.BkDone},
		{[2]int{3, 0}, [2]int{0, 0}, 3, 333333333333333, 1, top - 1, impl.BkDone},
		{[2]int{3, 0}, [2]int{0, 0}, 3, 333333333333334, 1, 0, impl.BkLarge},
		{[2]int{3, 0}, [2]int{0, 0}, 3, 666666666666667, 2, top, impl.BkDone},
		{[2]int{3, 0}, [2]int{0, 0}, 3, 666666666666668, 2, 0, impl.BkLarge},
		{[2]int{top, 0}, [2]int{0, 0}, top, top, 1, 0, impl.BkLarge},
		{[2]int{0, 0}, [2]int{0, 0}, 2, top, 1, 0, impl.BkLarge},
		{[2]int{0, 0}, [2]int{0, 0}, 1, top, 1, 0, impl.BkShort},
		{[2]int{0, 0}, [2]int{0, 0}, top, 1, 1, 0, impl.BkShort},
		// The desk would have too much of what it gets.
		{[2]int{5, 0}, [2]int{top - 5, 0}, 5, 1, 1, 5, impl.BkDone},
		{[2]int{5, 0}, [2]int{top - 4, 0}, 5, 1, 1, 0, impl.BkLarge},
		{[2]int{5, 0}, [2]int{top, 0}, 1, 1, 9, 0, impl.BkLarge},
		// The desk would lack too much of what it gives.
		{[2]int{5, 0}, [2]int{0, 3 - top}, 3, 1, 1, 3, impl.BkDone},
		{[2]int{5, 0}, [2]int{0, 3 - top}, 4, 1, 1, 0, impl.BkLarge},
		{[2]int{5, 0}, [2]int{0, -top}, 4, 1, 5, 0, impl.BkDone},
		{[2]int{5, 0}, [2]int{0, -top}, 5, 1, 5, 0, impl.BkLarge},
		// The holder would have too much of what it gets.
		{[2]int{5, top - 3}, [2]int{0, 0}, 3, 1, 1, 3, impl.BkDone},
		{[2]int{5, top - 3}, [2]int{0, 0}, 4, 1, 1, 0, impl.BkLarge},
		{[2]int{5, top}, [2]int{0, 0}, 5, 1, 6, 0, impl.BkDone},
		{[2]int{5, top}, [2]int{0, 0}, 5, 1, 5, 0, impl.BkLarge},
		// BalsPost names what is too large ahead of what is short.
		{[2]int{5, top}, [2]int{0, 0}, 6, 1, 1, 0, impl.BkLarge},
		{[2]int{5, 0}, [2]int{top, 0}, 6, 1, 1, 0, impl.BkLarge},
		{[2]int{5, 0}, [2]int{0, -top}, 6, 1, 1, 0, impl.BkLarge},
		// The desk's lack is made up for, to nothing and beyond it.
		{[2]int{top, 0}, [2]int{-top, top}, top, 1, 1, top, impl.BkDone},
		{[2]int{top, 0}, [2]int{-3, 2}, top, 1, top, 1, impl.BkDone},
	} {
		b := deskBooks(c.holder, c.dealer)
		call := fxCall(2, 3, 5, 6, c.amount, c.num, c.den)
		checkFx(t, b, call)
		if c.code != impl.BkDone {
			checkRefusal(t, b, call, c.code)
			continue
		}
		checkCall(t, b, call, changed(b, 2, 3, 5, 6, c.amount, c.got), c.got, impl.BkDone)
	}
}

// Every balance that can be is there, or just one of them is missing, which the desk or the holder gets.
func TestP9FxWhereBalancesAreFull(t *testing.T) {
	full := fullBooks()
	full.Accounts[18].Kind = impl.Dealer
	full.Lots = slices.DeleteFunc(full.Lots, func(l impl.Lot) bool { return l.Account == 19 })
	full.Trades = nil
	checkFx(t, full, fxCall(1, 19, 7, 8, 5, 1, 1))
	for _, gone := range [][2]int{{1, 8}, {19, 8}, {19, 7}} {
		one := withBal(full, gone[0], gone[1], 0, nil)
		one.Bals = balWith(one.Bals, 20, gone[1], -180)
		checkFx(t, one, fxCall(1, 19, 7, 8, 5, 1, 1))
		if next, got, code := impl.BookFx(one, 1, 19, 7, 8, 5, 1, 1); len(one.Bals) != impl.MaxBals-1 || got != 5 || code != impl.BkDone || len(next.Bals) != impl.MaxBals {
			t.Errorf("the last balance for which there is room: %v, %d, %d", next, got, code)
		}
	}
}

func TestP9FxByTheWords(t *testing.T) {
	for _, b := range []impl.Books{{}, someBooks(), farBooks(), fullBooks(), deskBooks([2]int{9, top}, [2]int{-4, 5})} {
		for _, holder := range []int{0, 1, 2, 4, 7} {
			for _, dealer := range []int{1, 3, 4, 7, 1001} {
				for _, from := range []int{0, 5, 6, 7, 8} {
					for _, to := range []int{5, 6, 9, 1001} {
						for _, rate := range [][3]int{{0, 1, 1}, {1, 1, 1}, {9, 2, 3}, {10, 7, 2}, {301, 1, 1}, {2, top, 1}, {5, 0, 1}, {5, 1, 0}, {top, 1, top}} {
							checkFx(t, b, fxCall(holder, dealer, from, to, rate[0], rate[1], rate[2]))
						}
					}
				}
			}
		}
	}
}

// Numbers of each kind that is not as it should be, in calls that books would do or refuse otherwise.
func TestP9FxOfBadNumbers(t *testing.T) {
	for _, b := range []impl.Books{{}, someBooks(), deskBooks([2]int{9, 9}, [2]int{9, 9})} {
		for place := range 4 {
			for _, x := range wrongNumbers() {
				c := fxCall(2, 4, 5, 6, 1, 1, 1)
				c.args[place] = x
				checkBad(t, b, c)
			}
		}
		for place := 4; place < 7; place++ {
			for _, x := range append(wrongAmounts(), 0, -1, -top, math.MaxInt-1) {
				for _, c := range []bookCall{fxCall(2, 4, 5, 6, 1, 1, 1), fxCall(2, 4, 5, 6, 301, top, 1), fxCall(7, 1, 5, 5, 2, top, 1)} {
					c.args[place] = x
					checkBad(t, b, c)
				}
			}
		}
	}
}
