package tests

import (
	"slices"
	"testing"

	"loop.example/g00110/impl"
)

func checkRun(t *testing.T, b impl.Books, list []impl.Cmd, want impl.Books, wantReplies []impl.Reply) {
	t.Helper()
	if got, replies := impl.CmdRun(b, list); !sameBooks(got, want) || !slices.Equal(replies, wantReplies) {
		t.Errorf("CmdRun(%v, %v) = %v, %v; want %v, %v", b, list, got, replies, want, wantReplies)
	}
}

func checkRunByWords(t *testing.T, b impl.Books, list []impl.Cmd) {
	t.Helper()
	want, replies := wantRun(b, list)
	checkRun(t, b, list, want, replies)
}

// checkNotRun wants the books as they were, whatever they are, and not one reply.
func checkNotRun(t *testing.T, b impl.Books, list []impl.Cmd) {
	t.Helper()
	checkRun(t, b, list, b, nil)
}

// checkInTurn holds a row against its commands, done one behind the other by CmdApply alone.
func checkInTurn(t *testing.T, b impl.Books, list []impl.Cmd) {
	t.Helper()
	want, replies := b, []impl.Reply{}
	for _, c := range list {
		next, reply := impl.CmdApply(want, c)
		if reply.Code == impl.BkDone {
			want = next
		}
		replies = append(replies, reply)
	}
	checkRun(t, b, list, want, replies)
}

// checkInParts wants of a row that is cut at one place what the whole row comes to.
func checkInParts(t *testing.T, b impl.Books, list []impl.Cmd, cut int) {
	t.Helper()
	want, wantReplies := impl.CmdRun(b, list)
	first, replies := impl.CmdRun(b, list[:cut])
	second, more := impl.CmdRun(first, list[cut:])
	if !sameBooks(second, want) || !slices.Equal(slices.Concat(replies, more), wantReplies) {
		t.Errorf("%v of %v cut at %d: %v, %v; want %v, %v", list, b, cut, second, slices.Concat(replies, more), want, wantReplies)
	}
}

// smallRow makes books from nothing on, with commands of each kind that are done.
func smallRow() []impl.Cmd {
	return cmdsOf(
		accountCall(1, impl.Issuer), accountCall(2, impl.Holder), accountCall(3, impl.Holder), accountCall(4, impl.Dealer), instrCall(7, impl.Paper), instrCall(8, impl.Cash),
		instrCall(9, impl.Cash), issueCall(1, 2, 7, 10, 200), issueCall(1, 3, 8, 500, 0), moveCall(2, 3, 7, 4, impl.First), tradeCall(5, 3, 2, 7, 4, 8, 150), settleCall(5, impl.First),
		tradeCall(6, 3, 2, 7, 2, 8, 100), tradeCall(7, 2, 3, 7, 1, 8, 60), tradeCall(8, 2, 3, 7, 1, 8, 1), cancelCall(8), netCall(1, 1000, impl.First), splitCall(7, 3, 2, 1),
		payCall(7, 8, 1, 100), fxCall(3, 4, 8, 9, 100, 7, 3),
	)
}

func smallReplies() []impl.Reply {
	replies := make([]impl.Reply, 20)
	for place, value := range map[int]int{9: 80, 11: 70, 16: 100, 17: 15, 18: 2, 19: 233} {
		replies[place].Value = value
	}
	return replies
}

func smallBooks() impl.Books {
	return impl.Books{
		Accounts: chartOf(1, impl.Issuer, 2, impl.Holder, 3, impl.Holder, 4, impl.Dealer),
		Instrs:   instrsOf(7, impl.Paper, 8, impl.Cash, 9, impl.Cash),
		Bals:     rows{{1, 7, -15}, {1, 8, -600}, {2, 7, 2}, {2, 8, 203}, {3, 7, 13}, {3, 8, 297}, {3, 9, 233}, {4, 8, 100}, {4, 9, -233}}.bals(),
		Lots:     lotRows{{2, 7, 5, 2, 60}, {3, 7, 2, 4, 60}, {3, 7, 3, 6, 150}, {3, 7, 4, 3, 100}}.lots(),
		Trades: tradeRows{{5, 3, 2, 7, 4, 8, 150, impl.TrDone}, {6, 3, 2, 7, 2, 8, 100, impl.TrDone}, {7, 2, 3, 7, 1, 8, 60, impl.TrDone},
			{8, 2, 3, 7, 1, 8, 1, impl.TrGone}}.trades(),
		Lot: 5,
	}
}

func TestP10RunFromNewBooksOn(t *testing.T) {
	checkRun(t, impl.BooksNew(), smallRow(), smallBooks(), smallReplies())
	checkInTurn(t, impl.BooksNew(), smallRow())
	for cut := range len(smallRow()) + 1 {
		checkInParts(t, impl.BooksNew(), smallRow(), cut)
	}
	// Once more, all that is told again is refused, and what moves is moved again.
	checkRunByWords(t, smallBooks(), smallRow())
	checkInTurn(t, smallBooks(), smallRow())
}

func TestP10RunOfNothing(t *testing.T) {
	for _, b := range rightBooks() {
		checkRun(t, b, nil, b, nil)
		checkRun(t, b, []impl.Cmd{}, b, []impl.Reply{})
	}
	for _, b := range wrongBooks() {
		checkNotRun(t, b, nil)
		checkNotRun(t, b, []impl.Cmd{})
	}
}

// rowBooks are right books of which rows are done, or refused with each code.
func rowBooks() []impl.Books {
	list := netBooks()
	for _, c := range allRefused() {
		list = append(list, c.given)
	}
	list = slices.DeleteFunc(list, func(b impl.Books) bool { return !booksRight(b) })
	return slices.CompactFunc(list, sameBooks)
}

func TestP10RunOfOne(t *testing.T) {
	for _, b := range rowBooks() {
		for _, call := range slices.Concat(allRightCalls(), doneCalls(), badCalls()[:20], badCorpCalls()[:20]) {
			next, reply := impl.CmdApply(b, call.cmd())
			if reply.Code != impl.BkDone {
				next = b
			}
			checkRun(t, b, cmdsOf(call), next, []impl.Reply{reply})
		}
	}
	for _, c := range wrongCmds() {
		for _, b := range []impl.Books{{}, someBooks(), fullBooks()} {
			checkRun(t, b, []impl.Cmd{c}, b, []impl.Reply{{Code: impl.BkBad}})
		}
	}
}

// The next command is done to the books that the refused one left as they were, whatever it was refused for.
func TestP10RunWithRefusedCommandsBetween(t *testing.T) {
	between := []struct {
		cmd  impl.Cmd
		code int
	}{
		{impl.Cmd{}, impl.BkBad}, {impl.Cmd{Kind: 12, Args: []int{1, 2}}, impl.BkBad}, {impl.Cmd{Kind: 1, Args: []int{70, 1, 1}}, impl.BkBad}, {impl.Cmd{Kind: 6}, impl.BkBad},
		{accountCall(70, 5).cmd(), impl.BkBad}, {issueCall(1, 2, 7, -1, 0).cmd(), impl.BkBad}, {cancelCall(500).cmd(), impl.BkNone}, {issueCall(501, 2, 7, 1, 0).cmd(), impl.BkNone},
		{netCall(900, 800, impl.First).cmd(), impl.BkNone}, {splitCall(500, 1, 1, 1).cmd(), impl.BkNone},
	}
	for _, wrong := range between {
		row, replies := []impl.Cmd{wrong.cmd}, []impl.Reply{{Code: wrong.code}}
		for i, c := range smallRow() {
			row = append(row, c, wrong.cmd, wrong.cmd)
			replies = append(replies, smallReplies()[i], impl.Reply{Code: wrong.code}, impl.Reply{Code: wrong.code})
		}
		checkRun(t, impl.BooksNew(), row, smallBooks(), replies)
		checkInTurn(t, impl.BooksNew(), row)
		for _, cut := range []int{0, 1, 2, 20, 31, len(row) - 1, len(row)} {
			checkInParts(t, impl.BooksNew(), row, cut)
		}
	}
	// All of them in one row, at the front, amid the others and at the end.
	row, replies := []impl.Cmd{}, []impl.Reply{}
	for i, c := range append(smallRow(), impl.Cmd{}) {
		for _, wrong := range between {
			row, replies = append(row, wrong.cmd), append(replies, impl.Reply{Code: wrong.code})
		}
		if i < len(smallRow()) {
			row, replies = append(row, c), append(replies, smallReplies()[i])
		}
	}
	checkRun(t, impl.BooksNew(), row, smallBooks(), replies)
}

func TestP10RunOfEachRefusal(t *testing.T) {
	for _, c := range allRefused() {
		done := accountCall(31, impl.Dealer)
		if len(c.given.Accounts) == impl.MaxAccounts {
			done = cancelCall(c.given.Trades[0].No)
		}
		want, _, code := done.do(c.given)
		if code != impl.BkDone {
			t.Fatalf("%v of %v: %d", done, c.given, code)
		}
		checkRun(t, c.given, cmdsOf(c.call, done, c.call), want, []impl.Reply{{Code: c.code}, {}, wantReply(want, c.call)})
		checkInTurn(t, c.given, cmdsOf(c.call, c.call, done, c.call, done))
	}
}

func wantReply(b impl.Books, c bookCall) impl.Reply {
	_, reply := wantApply(b, c.cmd())
	return reply
}

// The order of a row counts: what is not there yet is refused.
func TestP10RunInItsOrder(t *testing.T) {
	row := cmdsOf(accountCall(1, impl.Issuer), accountCall(2, impl.Holder), instrCall(7, impl.Paper), issueCall(1, 2, 7, 10, 200))
	want := impl.Books{
		Accounts: chartOf(1, impl.Issuer, 2, impl.Holder), Instrs: instrsOf(7, impl.Paper),
		Bals: rows{{1, 7, -10}, {2, 7, 10}}.bals(), Lots: lotRows{{2, 7, 1, 10, 200}}.lots(), Lot: 1,
	}
	checkRun(t, impl.Books{}, row, want, make([]impl.Reply, 4))
	slices.Reverse(row)
	want.Bals, want.Lots, want.Lot = nil, nil, 0
	checkRun(t, impl.Books{}, row, want, []impl.Reply{{Code: impl.BkNone}, {}, {}, {}})
	// Two of one number: the first one counts.
	twice := cmdsOf(accountCall(4, impl.Dealer), accountCall(4, impl.Holder), accountCall(4, impl.Dealer))
	checkRun(t, impl.Books{}, twice, impl.Books{Accounts: chartOf(4, impl.Dealer)}, []impl.Reply{{}, {Code: impl.BkKnown}, {Code: impl.BkKnown}})
	twice = cmdsOf(settleCall(1, impl.First), cancelCall(1), settleCall(1, impl.Last), netCall(1, 1, impl.First))
	settled, _, _ := impl.BookSettle(someBooks(), 1, impl.First)
	checkRun(t, someBooks(), twice, settled, []impl.Reply{{}, {Code: impl.BkState}, {Code: impl.BkState}, {Code: impl.BkNone}})
}

// longRow are n commands that make books from nothing on, and then move a piece there and back.
func longRow(n int) []impl.Cmd {
	row := cmdsOf(accountCall(1, impl.Issuer), accountCall(2, impl.Holder), accountCall(3, impl.Holder), instrCall(7, impl.Paper), issueCall(1, 2, 7, 10, 200))
	for i := range max(0, n-len(row)) {
		row = append(row, moveCall(2+i%2, 3-i%2, 7, 3, impl.Last).cmd())
	}
	return row[:n]
}

func TestP10RunOfAsManyAsThereCanBe(t *testing.T) {
	for _, n := range []int{1, 2, 298, 299, 300} {
		checkRunByWords(t, impl.Books{}, longRow(n))
		if b, replies := impl.CmdRun(impl.Books{}, longRow(n)); len(replies) != n || b.Lot != max(0, n-4) {
			t.Errorf("a row of %d: %v, %v", n, b, replies)
		}
		checkRun(t, someBooks(), make([]impl.Cmd, n), someBooks(), slices.Repeat([]impl.Reply{{Code: impl.BkBad}}, n))
	}
	for _, n := range []int{301, 302, 600, 5000} {
		for _, b := range []impl.Books{{}, someBooks(), farBooks(), fullBooks()} {
			checkNotRun(t, b, longRow(n))
			checkNotRun(t, b, make([]impl.Cmd, n))
		}
	}
	// The room behind a row is no part of it.
	checkRunByWords(t, impl.Books{}, longRow(400)[:300])
	if _, replies := impl.CmdRun(impl.Books{}, longRow(400)[:300]); len(replies) != 300 {
		t.Error("the room behind a row counts", replies)
	}
	checkInTurn(t, impl.Books{}, longRow(300))
	for _, cut := range []int{0, 1, 150, 299, 300} {
		checkInParts(t, impl.Books{}, longRow(300), cut)
	}
	// More than a row may have is two rows.
	first, _ := impl.CmdRun(impl.Books{}, longRow(301)[:300])
	if b, replies := impl.CmdRun(first, longRow(301)[300:]); b.Lot != 297 || !slices.Equal(replies, []impl.Reply{{Value: 60}}) {
		t.Error("the last one of 301", b, replies)
	}
}

func TestP10RunOfWrongBooks(t *testing.T) {
	for _, b := range slices.Concat(wrongBooks(), booksOfWrongBals(), booksOfMisfitLots(), booksOfMisfitTrades()) {
		checkNotRun(t, b, nil)
		checkNotRun(t, b, smallRow())
		checkNotRun(t, b, cmdsOf(doneCalls()[0]))
		checkNotRun(t, b, make([]impl.Cmd, 1))
		checkNotRun(t, b, make([]impl.Cmd, 301))
	}
}

func TestP10RunsByTheWords(t *testing.T) {
	for _, b := range rowBooks() {
		rows := [][]impl.Cmd{smallRow(), cmdsOf(doneCalls()...), cmdsOf(allRightCalls()...), slices.Concat(cmdsOf(rightNetCalls()...), wrongCmds()[:100], cmdsOf(rightCorpCalls()...))}
		for _, row := range rows {
			checkRunByWords(t, b, row)
			checkInTurn(t, b, row)
			checkInParts(t, b, row, len(row)/2)
			back := slices.Clone(row)
			slices.Reverse(back)
			checkRunByWords(t, b, back)
		}
	}
}
