package tests

import (
	"math"
	"slices"
	"testing"

	"loop.example/g00110/impl"
)

// bookCall is one call that turns books, with its arguments behind them.
type bookCall struct {
	what string
	args [7]int
}

func accountCall(no int, kind int) bookCall { return bookCall{"account", [7]int{no, kind}} }

func instrCall(no int, kind int) bookCall { return bookCall{"instr", [7]int{no, kind}} }

func issueCall(issuer int, holder int, instr int, qty int, cost int) bookCall {
	return bookCall{"issue", [7]int{issuer, holder, instr, qty, cost}}
}

func moveCall(from int, to int, instr int, qty int, way int) bookCall {
	return bookCall{"move", [7]int{from, to, instr, qty, way}}
}

func tradeCall(no int, buyer int, seller int, paper int, qty int, cash int, price int) bookCall {
	return bookCall{"trade", [7]int{no, buyer, seller, paper, qty, cash, price}}
}

func cancelCall(no int) bookCall { return bookCall{"cancel", [7]int{no}} }

func settleCall(no int, way int) bookCall { return bookCall{"settle", [7]int{no, way}} }

func netCall(from int, to int, way int) bookCall { return bookCall{"net", [7]int{from, to, way}} }

func fxCall(holder int, dealer int, from int, to int, amount int, num int, den int) bookCall {
	return bookCall{"fx", [7]int{holder, dealer, from, to, amount, num, den}}
}

func splitCall(paper int, n int, d int, issuer int) bookCall {
	return bookCall{"split", [7]int{paper, n, d, issuer}}
}

func payCall(paper int, cash int, payer int, total int) bookCall {
	return bookCall{"pay", [7]int{paper, cash, payer, total}}
}

// do is the books, what the call tells beside, and its code.
func (c bookCall) do(b impl.Books) (impl.Books, int, int) {
	a := c.args
	next, code := impl.Books{}, 0
	switch c.what {
	case "account":
		next, code = impl.BookAccount(b, a[0], a[1])
	case "instr":
		next, code = impl.BookInstr(b, a[0], a[1])
	case "issue":
		next, code = impl.BookIssue(b, a[0], a[1], a[2], a[3], a[4])
	case "move":
		return impl.BookMove(b, a[0], a[1], a[2], a[3], a[4])
	case "trade":
		next, code = impl.BookTrade(b, a[0], a[1], a[2], a[3], a[4], a[5], a[6])
	case "cancel":
		next, code = impl.BookCancel(b, a[0])
	case "net":
		net, _, gains, netCode := impl.BookNet(b, a[0], a[1], a[2])
		return net, gains, netCode
	case "fx":
		return impl.BookFx(b, a[0], a[1], a[2], a[3], a[4], a[5], a[6])
	case "split":
		return impl.BookSplit(b, a[0], a[1], a[2], a[3])
	case "pay":
		return impl.BookPay(b, a[0], a[1], a[2], a[3])
	default:
		return impl.BookSettle(b, a[0], a[1])
	}
	return next, 0, code
}

// want is what the call must answer, by the words.
func (c bookCall) want(b impl.Books) (impl.Books, int, int) {
	if !booksRight(b) || !c.asTold() {
		return impl.Books{}, 0, impl.BkBad
	}
	next, told, code := c.wantRight(b)
	if code != impl.BkDone {
		return b, 0, code
	}
	return next, told, code
}

// asTold says whether all numbers of the call are as they should be.
func (c bookCall) asTold() bool {
	a := c.args
	switch c.what {
	case "account":
		return inNumbers(a[0]) && slices.Contains([]int{1, 2, 3, 4}, a[1])
	case "instr":
		return inNumbers(a[0]) && slices.Contains([]int{1, 2}, a[1])
	case "issue":
		return inNumbers(a[0]) && inNumbers(a[1]) && inNumbers(a[2]) && a[3] >= 1 && a[3] <= top && a[4] >= 0 && a[4] <= top
	case "move":
		return inNumbers(a[0]) && inNumbers(a[1]) && inNumbers(a[2]) && a[3] >= 1 && a[3] <= top && slices.Contains(threeWays(), a[4])
	case "trade":
		numbers := inNumbers(a[0]) && inNumbers(a[1]) && inNumbers(a[2]) && inNumbers(a[3]) && inNumbers(a[5])
		return numbers && a[4] >= 1 && a[4] <= top && a[6] >= 0 && a[6] <= top
	case "cancel":
		return inNumbers(a[0])
	case "net":
		return inNumbers(a[0]) && inNumbers(a[1]) && slices.Contains(threeWays(), a[2])
	case "fx":
		numbers := inNumbers(a[0]) && inNumbers(a[1]) && inNumbers(a[2]) && inNumbers(a[3])
		return numbers && a[4] >= 1 && a[4] <= top && a[5] >= 1 && a[5] <= top && a[6] >= 1 && a[6] <= top
	case "split":
		return inNumbers(a[0]) && inNumbers(a[3]) && a[1] >= 1 && a[1] <= 1000000 && a[2] >= 1 && a[2] <= 1000000
	case "pay":
		return inNumbers(a[0]) && inNumbers(a[1]) && inNumbers(a[2]) && a[3] >= 0 && a[3] <= top
	}
	return inNumbers(a[0]) && slices.Contains(threeWays(), a[1])
}

func (c bookCall) wantRight(b impl.Books) (impl.Books, int, int) {
	a := c.args
	switch c.what {
	case "account":
		return wantAccount(b, a[0], a[1])
	case "instr":
		return wantInstr(b, a[0], a[1])
	case "issue":
		return wantIssue(b, a[0], a[1], a[2], a[3], a[4])
	case "move":
		return wantMove(b, a[0], a[1], a[2], a[3], a[4])
	case "trade":
		return wantTrade(b, tradeOf([8]int{a[0], a[1], a[2], a[3], a[4], a[5], a[6], impl.TrOpen}))
	case "cancel":
		return wantCancel(b, a[0])
	case "net":
		return wantNet(b, a[0], a[1], a[2])
	case "fx":
		return wantFx(b, a)
	case "split":
		return wantSplit(b, a[0], a[1], a[2], a[3])
	case "pay":
		return wantPay(b, a[0], a[1], a[2], a[3])
	}
	return wantSettle(b, a[0], a[1])
}

func wantAccount(b impl.Books, no int, kind int) (impl.Books, int, int) {
	if kindIn(b.Accounts, no) != 0 {
		return b, 0, impl.BkKnown
	}
	if len(b.Accounts) == 20 {
		return b, 0, impl.BkFull
	}
	b.Accounts, _ = accountFace().wantPut(b.Accounts, impl.Account{No: no, Kind: kind})
	return b, 0, impl.BkDone
}

func wantInstr(b impl.Books, no int, kind int) (impl.Books, int, int) {
	if kindIn(b.Instrs, no) != 0 {
		return b, 0, impl.BkKnown
	}
	if len(b.Instrs) == 8 {
		return b, 0, impl.BkFull
	}
	b.Instrs, _ = instrFace().wantPut(b.Instrs, impl.Instr{No: no, Kind: kind})
	return b, 0, impl.BkDone
}

func wantIssue(b impl.Books, issuer int, holder int, instr int, qty int, cost int) (impl.Books, int, int) {
	giver, getter, kind := kindIn(b.Accounts, issuer), kindIn(b.Accounts, holder), kindIn(b.Instrs, instr)
	if giver == 0 || getter == 0 || kind == 0 {
		return b, 0, impl.BkNone
	}
	if giver != impl.Issuer || getter != impl.Holder || kind == impl.Cash && cost != 0 {
		return b, 0, impl.BkKind
	}
	b, code := wantGiven(b, issuer, holder, instr, qty)
	if code == impl.BkDone && kind == impl.Paper {
		b, code = wantOpened(b, holder, instr, qty, cost)
	}
	return b, 0, code
}

func wantMove(b impl.Books, from int, to int, instr int, qty int, way int) (impl.Books, int, int) {
	giver, getter, kind := kindIn(b.Accounts, from), kindIn(b.Accounts, to), kindIn(b.Instrs, instr)
	if giver == 0 || getter == 0 || kind == 0 {
		return b, 0, impl.BkNone
	}
	if giver != impl.Holder || getter != impl.Holder || from == to {
		return b, 0, impl.BkKind
	}
	b, code := wantGiven(b, from, to, instr, qty)
	if code != impl.BkDone || kind == impl.Cash {
		return b, 0, code
	}
	cost := 0
	b.Lots, cost, _ = wantTake(b.Lots, from, instr, qty, way)
	b, code = wantOpened(b, to, instr, qty, cost)
	return b, cost, code
}

// wantGiven are books in which one account has less and another one more; nobody that is a holder may lack any.
func wantGiven(b impl.Books, from int, to int, instr int, qty int) (impl.Books, int) {
	less, more := amountIn(b.Bals, from, instr)-qty, amountIn(b.Bals, to, instr)+qty
	if !bothAmounts(less, more) {
		return b, impl.BkLarge
	}
	if less < 0 && kindIn(b.Accounts, from) == impl.Holder {
		return b, impl.BkShort
	}
	b.Bals = balWith(balWith(b.Bals, from, instr, less), to, instr, more)
	return b, impl.BkDone
}

func wantOpened(b impl.Books, account int, instr int, qty int, cost int) (impl.Books, int) {
	if b.Lot == 1000000000 {
		return b, impl.BkFull
	}
	b.Lot++
	lots, code := wantOpen(b.Lots, impl.Lot{Account: account, Instr: instr, No: b.Lot, Qty: qty, Cost: cost})
	if code != impl.LotDone {
		return b, impl.BkFull
	}
	b.Lots = lots
	return b, impl.BkDone
}

func checkCall(t *testing.T, b impl.Books, c bookCall, want impl.Books, wantTold int, wantCode int) {
	t.Helper()
	got, told, code := c.do(b)
	if !sameBooks(got, want) || told != wantTold || code != wantCode {
		t.Errorf("%v of %v = %v, %d, %d; want %v, %d, %d", c, b, got, told, code, want, wantTold, wantCode)
	}
	if code == impl.BkDone {
		checkKept(t, b, c, got)
	}
}

// checkKept is what follows: behind a done call the books are right, and of each instrument all balances together are 0.
func checkKept(t *testing.T, b impl.Books, c bookCall, got impl.Books) {
	t.Helper()
	if !impl.BooksOk(got) || !booksRight(got) {
		t.Errorf("behind %v of %v the books are not right: %v", c, b, got)
	}
	for _, i := range got.Instrs {
		if sum, ok := impl.BalsSum(got.Bals, i.No); sum != 0 || !ok {
			t.Errorf("behind %v of %v all of %d together are %d, %v", c, b, i.No, sum, ok)
		}
	}
}

// checkRefusal wants a code that is neither BkDone nor BkBad, and the books as they were.
func checkRefusal(t *testing.T, b impl.Books, c bookCall, wantCode int) {
	t.Helper()
	checkCall(t, b, c, b, 0, wantCode)
}

func checkBad(t *testing.T, b impl.Books, c bookCall) {
	t.Helper()
	checkCall(t, b, c, impl.Books{}, 0, impl.BkBad)
}

func checkCallByWords(t *testing.T, b impl.Books, c bookCall) {
	t.Helper()
	want, told, code := c.want(b)
	checkCall(t, b, c, want, told, code)
}

// rightCalls are calls whose numbers are all as they should be, of which someBooks refuse some.
func rightCalls() []bookCall {
	return []bookCall{
		accountCall(1, impl.Holder), accountCall(7, impl.Issuer), accountCall(1000, impl.Rounder),
		instrCall(5, impl.Cash), instrCall(1, impl.Paper), instrCall(1000, impl.Cash),
		issueCall(1, 2, 5, 10, 0), issueCall(1, 2, 5, 10, 7), issueCall(8, 6, 9, top, top), issueCall(1, 3, 7, 1, 0),
		issueCall(2, 1, 7, 5, 5), issueCall(1, 7, 7, 5, 5), issueCall(1, 2, 8, 5, 5), issueCall(20, 1, 7, 3, 0),
		moveCall(2, 3, 5, 300, impl.First), moveCall(2, 6, 7, 12, impl.Last), moveCall(2, 3, 7, 20, impl.Mean), moveCall(3, 2, 7, 6, impl.First),
		moveCall(2, 2, 7, 1, impl.First), moveCall(1, 2, 7, 1, impl.Last), moveCall(2, 7, 7, 1, impl.Mean), moveCall(2, 3, 8, 1, impl.Mean),
	}
}

// badCalls have one number each that is not as it should be, in calls that someBooks would do or refuse otherwise.
func badCalls() []bookCall {
	list := []bookCall{}
	with := func(c bookCall, place int, values []int) {
		for _, x := range values {
			bad := c
			bad.args[place] = x
			list = append(list, bad)
		}
	}
	for _, c := range rightCalls() {
		last := map[string]int{"account": 0, "instr": 0, "issue": 2, "move": 2}[c.what]
		for place := range last + 1 {
			with(c, place, wrongNumbers())
		}
		switch c.what {
		case "account":
			with(c, 1, []int{0, 5, -1, 6, math.MaxInt, math.MinInt})
		case "instr":
			with(c, 1, []int{0, 3, 4, -1, math.MaxInt, math.MinInt})
		case "issue":
			with(c, 3, append(wrongAmounts(), 0, -1, -top))
			with(c, 4, append(wrongAmounts(), -1, -top))
		case "move":
			with(c, 3, append(wrongAmounts(), 0, -1, -top))
			with(c, 4, []int{0, 4, -1, 5, math.MaxInt, math.MinInt})
		}
	}
	return list
}

func TestP6BadNumbers(t *testing.T) {
	for _, c := range badCalls() {
		for _, b := range []impl.Books{{}, someBooks(), farBooks(), fullBooks()} {
			checkBad(t, b, c)
		}
	}
}

func TestP6BadBooks(t *testing.T) {
	for _, b := range wrongBooks() {
		for _, c := range rightCalls() {
			checkBad(t, b, c)
		}
	}
	for _, b := range booksOfWrongBals() {
		for _, c := range badCalls() {
			checkBad(t, b, c)
		}
	}
}

func TestP6Account(t *testing.T) {
	b, code := impl.BookAccount(impl.BooksNew(), 5, impl.Dealer)
	if code != impl.BkDone || !sameBooks(b, impl.Books{Accounts: chartOf(5, impl.Dealer)}) {
		t.Error("the first account", b, code)
	}
	for _, c := range []struct {
		no, kind int
		want     []impl.Account
	}{
		{1, impl.Holder, chartOf(1, impl.Holder, 5, impl.Dealer)},
		{4, impl.Issuer, chartOf(4, impl.Issuer, 5, impl.Dealer)},
		{6, impl.Dealer, chartOf(5, impl.Dealer, 6, impl.Dealer)},
		{1000, impl.Rounder, chartOf(5, impl.Dealer, 1000, impl.Rounder)},
	} {
		checkCall(t, b, accountCall(c.no, c.kind), impl.Books{Accounts: c.want}, 0, impl.BkDone)
	}
	for kind := impl.Holder; kind <= impl.Rounder; kind++ {
		checkRefusal(t, b, accountCall(5, kind), impl.BkKnown)
		want := someBooks()
		want.Accounts = append(want.Accounts, impl.Account{No: 9, Kind: kind})
		checkCall(t, someBooks(), accountCall(9, kind), want, 0, impl.BkDone)
	}
	// An instrument of that number is no account.
	want := someBooks()
	want.Accounts = slices.Insert(want.Accounts, 6, impl.Account{No: 7, Kind: impl.Issuer})
	checkCall(t, someBooks(), accountCall(7, impl.Issuer), want, 0, impl.BkDone)
}

func TestP6Instr(t *testing.T) {
	b, code := impl.BookInstr(impl.BooksNew(), 5, impl.Paper)
	if code != impl.BkDone || !sameBooks(b, impl.Books{Instrs: instrsOf(5, impl.Paper)}) {
		t.Error("the first instrument", b, code)
	}
	for _, c := range []struct {
		no, kind int
		want     []impl.Instr
	}{
		{1, impl.Cash, instrsOf(1, impl.Cash, 5, impl.Paper)},
		{4, impl.Paper, instrsOf(4, impl.Paper, 5, impl.Paper)},
		{6, impl.Paper, instrsOf(5, impl.Paper, 6, impl.Paper)},
		{1000, impl.Cash, instrsOf(5, impl.Paper, 1000, impl.Cash)},
	} {
		checkCall(t, b, instrCall(c.no, c.kind), impl.Books{Instrs: c.want}, 0, impl.BkDone)
	}
	checkRefusal(t, b, instrCall(5, impl.Paper), impl.BkKnown)
	checkRefusal(t, b, instrCall(5, impl.Cash), impl.BkKnown)
	// An account of that number is no instrument.
	want := someBooks()
	want.Instrs = slices.Insert(want.Instrs, 3, impl.Instr{No: 8, Kind: impl.Paper})
	checkCall(t, someBooks(), instrCall(8, impl.Paper), want, 0, impl.BkDone)
	// A kind of accounts is none of instruments.
	checkBad(t, b, instrCall(6, impl.Dealer))
	checkBad(t, b, instrCall(5, impl.Rounder))
}

// However they are told, at most MaxAccounts and MaxInstrs are there, and of a full chart a known one is BkKnown.
func TestP6FullCharts(t *testing.T) {
	b := impl.BooksNew()
	for i := range impl.MaxAccounts {
		next, code := impl.BookAccount(b, 1000-7*i, 1+i%4)
		if code != impl.BkDone || len(next.Accounts) != i+1 || !impl.BooksOk(next) {
			t.Fatalf("account %d: %v, %d", i, next, code)
		}
		b = next
	}
	checkRefusal(t, b, accountCall(1, impl.Holder), impl.BkFull)
	checkRefusal(t, b, accountCall(999, impl.Dealer), impl.BkFull)
	checkRefusal(t, b, accountCall(1000, impl.Holder), impl.BkKnown)
	checkRefusal(t, b, accountCall(993, impl.Issuer), impl.BkKnown)
	for i := range impl.MaxInstrs {
		next, code := impl.BookInstr(b, 3+100*i, 1+i%2)
		if code != impl.BkDone || len(next.Instrs) != i+1 || !impl.BooksOk(next) {
			t.Fatalf("instrument %d: %v, %d", i, next, code)
		}
		b = next
	}
	checkRefusal(t, b, instrCall(1, impl.Cash), impl.BkFull)
	checkRefusal(t, b, instrCall(1000, impl.Paper), impl.BkFull)
	checkRefusal(t, b, instrCall(3, impl.Cash), impl.BkKnown)
	checkRefusal(t, b, instrCall(703, impl.Paper), impl.BkKnown)
	for _, c := range []bookCall{accountCall(21, impl.Holder), instrCall(9, impl.Cash)} {
		checkRefusal(t, fullBooks(), c, impl.BkFull)
	}
	for _, c := range []bookCall{accountCall(20, impl.Holder), instrCall(8, impl.Cash)} {
		checkRefusal(t, fullBooks(), c, impl.BkKnown)
	}
}

func TestP6ChartsByTheWords(t *testing.T) {
	for _, b := range append(rightBooks(), wrongBooks()[:40]...) {
		for _, no := range []int{-1, 0, 1, 2, 4, 5, 7, 8, 9, 20, 21, 999, 1000, 1001} {
			for kind := -1; kind < 7; kind++ {
				checkCallByWords(t, b, accountCall(no, kind))
				checkCallByWords(t, b, instrCall(no, kind))
			}
		}
	}
}
