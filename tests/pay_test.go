package tests

import (
	"slices"
	"testing"

	"loop.example/g00110/impl"
)

func wantPay(b impl.Books, paper int, cash int, payer int, total int) (impl.Books, int, int) {
	paperKind, cashKind, payerKind := kindIn(b.Instrs, paper), kindIn(b.Instrs, cash), kindIn(b.Accounts, payer)
	if paperKind == 0 || cashKind == 0 || payerKind == 0 {
		return b, 0, impl.BkNone
	}
	if paperKind != impl.Paper || cashKind != impl.Cash || payerKind != impl.Issuer {
		return b, 0, impl.BkKind
	}
	accounts, amounts, _, ok := wantHeld(b, paper)
	if !ok {
		return b, 0, impl.BkLarge
	}
	if len(accounts) == 0 {
		return b, 0, impl.BkShort
	}
	legs := rows{{payer, cash, -total}}.legs()
	for i, share := range wantShares(total, amounts) {
		legs = append(legs, impl.Leg{Account: accounts[i], Instr: cash, Amount: share})
	}
	b, code := wantPosted(b, legs)
	return b, len(accounts), code
}

// checkPay holds a call against the words and against the promise.
func checkPay(t *testing.T, b impl.Books, c bookCall) {
	t.Helper()
	checkCallByWords(t, b, c)
	checkIsPaid(t, b, c)
}

// checkIsPaid is the promise: the payer gave just the total, the holders of the paper got just their shares, and nobody else anything; no lot is turned.
func checkIsPaid(t *testing.T, b impl.Books, c bookCall) {
	t.Helper()
	paper, cash, payer, total := c.args[0], c.args[1], c.args[2], c.args[3]
	next, count, code := impl.BookPay(b, paper, cash, payer, total)
	if code != impl.BkDone {
		return
	}
	accounts, amounts, _, _ := impl.Held(b, paper)
	shares, _ := impl.Shares(total, amounts)
	if count != len(accounts) || sumOf(shares) != total {
		t.Errorf("%v of %v tells %d holders; want %d", c, b, count, len(accounts))
	}
	turns := map[[2]int]int{{payer, cash}: -total}
	for i, account := range accounts {
		turns[[2]int{account, cash}] = shares[i]
	}
	for _, a := range b.Accounts {
		for _, i := range b.Instrs {
			checkTurnedBy(t, b, next, c, a.No, i.No, [3]int{turns[[2]int{a.No, i.No}], 0, 0})
		}
	}
	want := cloneBooks(b)
	want.Bals = next.Bals
	if !sameBooks(next, want) {
		t.Errorf("%v of %v turns more than balances: %v", c, b, next)
	}
}

// Account 2 has 20 pieces of paper 7 and account 3 has 5; what the desk has of it is not paid for.
func TestP9Pay(t *testing.T) {
	b := someBooks()
	for _, c := range [][3]int{
		// It comes out even, or something is left over, or there is less than there are holders, or nothing.
		{25, 20, 5}, {50, 40, 10}, {5, 4, 1}, {10, 8, 2}, {1000, 800, 200},
		{7, 6, 1}, {8, 6, 2}, {6, 5, 1}, {9, 7, 2}, {3, 2, 1}, {99, 79, 20}, {101, 81, 20},
		{1, 1, 0}, {2, 2, 0}, {0, 0, 0},
	} {
		for _, payer := range []int{1, 8} {
			for _, cash := range []int{5, 6} {
				want := paid(paid(b, payer, 2, cash, c[1]), payer, 3, cash, c[2])
				checkCall(t, b, payCall(7, cash, payer, c[0]), want, 2, impl.BkDone)
				checkPay(t, b, payCall(7, cash, payer, c[0]))
			}
		}
	}
	// Written out: some had some of it, and the payer lacks more; nobody had some of it, and the payer lacked none.
	want := someBooks()
	want.Bals = rows{{1, 5, -507}, {1, 7, -27}, {1, 9, -4}, {2, 5, 306}, {2, 7, 20}, {2, 9, 4}, {3, 5, 151}, {3, 7, 5},
		{4, 5, 50}, {4, 6, -30}, {4, 7, 2}, {6, 6, 30}}.bals()
	checkCall(t, b, payCall(7, 5, 1, 7), want, 2, impl.BkDone)
	want.Bals = rows{{1, 5, -500}, {1, 7, -27}, {1, 9, -4}, {2, 5, 300}, {2, 6, 6}, {2, 7, 20}, {2, 9, 4}, {3, 5, 150}, {3, 6, 1}, {3, 7, 5},
		{4, 5, 50}, {4, 6, -30}, {4, 7, 2}, {6, 6, 30}, {8, 6, -7}}.bals()
	checkCall(t, b, payCall(7, 6, 8, 7), want, 2, impl.BkDone)
	// One holder gets all of it.
	for _, total := range []int{0, 1, 3, 4, 1000} {
		checkCall(t, b, payCall(9, 6, 8, total), paid(b, 8, 2, 6, total), 1, impl.BkDone)
	}
	// Of nothing, everything stays as it was.
	checkCall(t, b, payCall(7, 6, 8, 0), b, 2, impl.BkDone)
}

// The payer has some of the cash, all of it or more than that, or just so much that nothing is left.
func TestP9PayOfWhatThePayerHas(t *testing.T) {
	b := withBal(withBal(someBooks(), 8, 6, 50, nil), 4, 6, -80, nil)
	for _, total := range []int{1, 49, 50, 51, 500} {
		checkPay(t, b, payCall(7, 6, 8, total))
		if next, count, code := impl.BookPay(b, 7, 6, 8, total); impl.BalOf(next.Bals, 8, 6) != 50-total || count != 2 || code != impl.BkDone {
			t.Errorf("a payer with 50 pays %d: %v, %d, %d", total, next, count, code)
		}
	}
}

// Holders with as many pieces each: those with the lower numbers get what is left over.
func TestP9PayOfLikeBalances(t *testing.T) {
	for _, c := range []struct {
		have  []int
		total int
		whose []int
	}{
		{[]int{3, 3, 3}, 9, []int{3, 3, 3}},
		{[]int{3, 3, 3}, 10, []int{4, 3, 3}},
		{[]int{3, 3, 3}, 11, []int{4, 4, 3}},
		{[]int{3, 3, 3}, 2, []int{1, 1, 0}},
		{[]int{3, 3, 3}, 1, []int{1, 0, 0}},
		{[]int{5, 2, 5, 2}, 7, []int{3, 1, 2, 1}},
		{[]int{1, 9}, 4, []int{0, 4}},
		{[]int{9, 1}, 5, []int{5, 0}},
		{[]int{1, 1, 8}, 1, []int{0, 0, 1}},
		{[]int{7}, 12, []int{12}},
	} {
		b := heldBooks(c.have...)
		want := b
		for i, share := range c.whose {
			want = paid(want, 1, 2+2*i, 5, share)
		}
		checkCall(t, b, payCall(7, 5, 1, c.total), want, len(c.have), impl.BkDone)
		checkPay(t, b, payCall(7, 5, 1, c.total))
	}
	// Holders of nothing get nothing, and are not told.
	some := heldBooks(0, 5, 0, 0, 3, 0)
	checkCall(t, some, payCall(7, 5, 11, 16), paid(paid(some, 11, 4, 5, 10), 11, 10, 5, 6), 2, impl.BkDone)
	for _, total := range []int{0, 1, 5, 18, 19, 20, 190, 191, 1000, top - 190} {
		checkPay(t, fullBooks(), payCall(1, 7, 20, total))
		if next, count, code := impl.BookPay(fullBooks(), 1, 7, 20, total); count != 19 || code != impl.BkDone || impl.BalOf(next.Bals, 20, 7) != -190-total {
			t.Errorf("full books pay %d: %v, %d, %d", total, next, count, code)
		}
	}
	checkRefusal(t, fullBooks(), payCall(1, 7, 20, top-189), impl.BkLarge)
}

func TestP9PayOfWhatIsNotThere(t *testing.T) {
	for _, c := range []bookCall{
		payCall(8, 5, 1, 1), payCall(7, 8, 1, 1), payCall(7, 5, 7, 1), payCall(8, 8, 7, 0), payCall(1000, 5, 1, 1), payCall(7, 1, 1, 1), payCall(7, 5, 1000, top),
		// What is of a wrong kind, too large or held by nobody is told only where all are there.
		payCall(8, 7, 1, 1), payCall(5, 8, 1, 1), payCall(8, 5, 2, 1), payCall(7, 8, 4, 1), payCall(5, 7, 7, 1), payCall(5, 5, 7, 1),
	} {
		checkRefusal(t, someBooks(), c, impl.BkNone)
		checkRefusal(t, impl.BooksNew(), c, impl.BkNone)
	}
	checkRefusal(t, farBooks(), payCall(1, 1000, 5, 1), impl.BkNone)
	checkRefusal(t, farBooks(), payCall(1, 999, 2, 1), impl.BkNone)
}

func TestP9PayOfWrongKinds(t *testing.T) {
	for _, c := range []bookCall{
		payCall(5, 6, 1, 1), payCall(6, 6, 1, 1), payCall(7, 9, 1, 1), payCall(7, 7, 8, 1), payCall(7, 5, 2, 1), payCall(7, 5, 3, 0), payCall(7, 5, 4, 1),
		payCall(7, 5, 5, 1), payCall(5, 7, 1, 1), payCall(5, 7, 2, 1),
	} {
		checkRefusal(t, someBooks(), c, impl.BkKind)
	}
	// They come ahead of what is too large and of what nobody has.
	checkRefusal(t, farBooks(), payCall(1, 1000, 1, 1), impl.BkKind)
	checkRefusal(t, farBooks(), payCall(1, 1, 2, 1), impl.BkKind)
	checkRefusal(t, farBooks(), payCall(1000, 1000, 2, 1), impl.BkKind)
	checkRefusal(t, heldBooks(0), payCall(7, 5, 2, 1), impl.BkKind)
	checkRefusal(t, heldBooks(0), payCall(7, 6, 1, 1), impl.BkKind)
	checkRefusal(t, heldBooks(0), payCall(5, 5, 1, 1), impl.BkKind)
}

func TestP9PayOfWhatNobodyHas(t *testing.T) {
	for _, total := range []int{0, 1, top} {
		checkRefusal(t, heldBooks(0, 0), payCall(7, 5, 1, total), impl.BkShort)
		checkRefusal(t, heldBooks(4, 5), payCall(6, 5, 3, total), impl.BkShort)
		// A desk, a rounder and issuers have and lack some.
		b := someBooks()
		b.Bals, b.Lots, b.Trades = rows{{1, 7, 12}, {4, 7, -20}, {5, 7, 15}, {8, 7, -7}}.bals(), nil, nil
		checkRefusal(t, b, payCall(7, 5, 1, total), impl.BkShort)
		checkRefusal(t, b, payCall(9, 6, 8, total), impl.BkShort)
		// It comes ahead of what the payer would lack.
		poor := withBal(withBal(b, 1, 5, -top, nil), 4, 5, top, nil)
		checkRefusal(t, poor, payCall(7, 5, 1, total), impl.BkShort)
	}
}

// paidBooks are heldBooks of two holders with ten and five pieces, which have so much of the cash, as has the payer 1; issuer 3 has what is left, or lacks it.
func paidBooks(first int, second int, payer int) impl.Books {
	b := heldBooks(10, 5)
	b.Bals = balWith(balWith(balWith(b.Bals, 2, 5, first), 4, 5, second), 1, 5, payer)
	b.Bals = balWith(b.Bals, 3, 5, -first-second-payer)
	return b
}

func TestP9PayThatIsTooLarge(t *testing.T) {
	// All holders together have just an amount of the paper, or none.
	for _, amounts := range [][]int{{top}, {top - 1, 1}, {1, top - 2, 1}} {
		for _, total := range []int{0, 1, 7, top - 1, top} {
			checkPay(t, heldBooks(amounts...), payCall(7, 5, 1, total))
			if _, count, code := impl.BookPay(heldBooks(amounts...), 7, 5, 1, total); count != len(amounts) || code != impl.BkDone {
				t.Errorf("%d paid to %v: %d, %d", total, amounts, count, code)
			}
		}
	}
	for _, amounts := range [][]int{{top, 1}, {top, top}, {1, top - 1, 1}} {
		for _, total := range []int{0, 1, top} {
			checkRefusal(t, heldBooks(amounts...), payCall(7, 5, 1, total), impl.BkLarge)
			checkRefusal(t, heldBooks(amounts...), payCall(6, 5, 1, total), impl.BkShort)
		}
	}
	checkRefusal(t, farBooks(), payCall(1, 1000, 3, 0), impl.BkLarge)
	// What a holder would have, or what the payer would lack, is just an amount, or is none.
	for _, c := range []struct {
		first, second, payer int
		total                int
		code                 int
	}{
		{0, 0, 0, 0, impl.BkDone},
		{0, 0, 0, top, impl.BkDone},
		{0, 0, -1, top - 1, impl.BkDone},
		{0, 0, -1, top, impl.BkLarge},
		{0, 0, -top, 0, impl.BkDone},
		{0, 0, -top, 1, impl.BkLarge},
		{0, 0, 3 - top, 3, impl.BkDone},
		{0, 0, 3 - top, 4, impl.BkLarge},
		{0, 0, top, top, impl.BkDone},
		{top - 2, 0, 0, 3, impl.BkDone},
		{top - 2, 0, 0, 4, impl.BkLarge},
		{top, 0, 0, 0, impl.BkDone},
		{top, 0, 0, 1, impl.BkLarge},
		{0, top - 1, 0, 3, impl.BkDone},
		{0, top - 1, 0, 4, impl.BkDone},
		{0, top - 1, 0, 5, impl.BkLarge},
		{0, top, 0, 1, impl.BkDone},
		{0, top, 0, 2, impl.BkLarge},
		// It is the last leg that is too large, behind others that were not.
		{5, top, -12, 30, impl.BkLarge},
	} {
		b := paidBooks(c.first, c.second, c.payer)
		checkPay(t, b, payCall(7, 5, 1, c.total))
		if c.code != impl.BkDone {
			checkRefusal(t, b, payCall(7, 5, 1, c.total), c.code)
			continue
		}
		if _, count, code := impl.BookPay(b, 7, 5, 1, c.total); count != 2 || code != c.code {
			t.Errorf("%d of %v: %d, %d", c.total, b, count, code)
		}
	}
}

// Balances that were not there, where as many are missing to all that can be.
func TestP9PayWhereBalancesAreFull(t *testing.T) {
	full := fullBooks()
	checkPay(t, full, payCall(6, 8, 20, 77))
	for _, gone := range [][]int{{1}, {19}, {3, 4}, {1, 2, 3, 4, 5, 6, 7, 8, 9, 10, 11, 12, 13, 14, 15, 16, 17, 18, 19}} {
		some := full
		for _, account := range gone {
			some = withBal(some, account, 8, 0, nil)
		}
		some = withBal(some, 20, 8, -190+10*len(gone), nil)
		checkPay(t, some, payCall(6, 8, 20, 77))
		next, count, code := impl.BookPay(some, 6, 8, 20, 77)
		if len(some.Bals) != impl.MaxBals-len(gone)-len(gone)/19 || count != 19 || code != impl.BkDone || len(next.Bals) != impl.MaxBals {
			t.Errorf("the last balances for which there is room: %v, %d, %d", next, count, code)
		}
	}
	// No lot is needed, nor a number of one, and a holder's lots are not too many.
	checkPay(t, lotted(full, lastNo), payCall(6, 8, 20, 77))
	checkPay(t, manyLotBooks(41, 60), payCall(7, 5, 1, 77))
	if _, count, code := impl.BookPay(manyLotBooks(41, 60), 7, 5, 1, 77); count != 2 || code != impl.BkDone {
		t.Error("holders of many lots", count, code)
	}
}

func TestP9PayOfBadNumbers(t *testing.T) {
	for _, b := range []impl.Books{{}, someBooks(), farBooks(), heldBooks(0, 0), heldBooks(top, 1)} {
		for _, given := range []bookCall{payCall(7, 5, 1, 7), payCall(8, 8, 7, 0), payCall(5, 7, 2, top)} {
			for place := range 3 {
				for _, x := range wrongNumbers() {
					c := given
					c.args[place] = x
					checkBad(t, b, c)
				}
			}
			for _, x := range append(wrongAmounts(), -1, -2, -top) {
				c := given
				c.args[3] = x
				checkBad(t, b, c)
			}
		}
	}
}

func TestP9PaysByTheWords(t *testing.T) {
	for _, b := range slices.Concat(rightBooks(), []impl.Books{heldBooks(3, 9, 1, 5), heldBooks(top-5, 5), paidBooks(top, 4, -4), manyLotBooks(3, 41)}) {
		for _, paper := range []int{0, 1, 5, 7, 8, 9, 1000} {
			for _, cash := range []int{1, 5, 6, 7, 8, 1000, 1001} {
				for _, payer := range []int{1, 2, 3, 8, 20, 1001} {
					for _, total := range []int{-1, 0, 1, 2, 7, 25, top, top + 1} {
						checkPay(t, b, payCall(paper, cash, payer, total))
					}
				}
			}
		}
	}
}

// All small holdings by all small payments.
func TestP9SmallPaymentsByTheWords(t *testing.T) {
	for first := range 6 {
		for second := range 5 {
			for third := range 4 {
				b := heldBooks(first, second, third)
				for total := range 14 {
					checkPay(t, b, payCall(7, 5, 3, total))
				}
			}
		}
	}
}
