package tests

import (
	"math"
	"slices"
	"testing"

	"loop.example/g00110/impl"
)

// diceCmd is a command that books may do or refuse, of any kind; some of them are none at all.
func diceCmd(b impl.Books, roll func(n int) int) impl.Cmd {
	if len(b.Accounts) < 7 && roll(2) == 0 {
		return accountCall(1+roll(8), []int{1, 1, 1, 2, 3, 4}[roll(6)]).cmd()
	}
	if len(b.Instrs) < 4 && roll(3) == 0 {
		return instrCall(1+roll(5), 1+roll(2)).cmd()
	}
	c := diceNetCall(b, roll).cmd()
	if roll(2) == 0 {
		c = diceCorpCall(b, roll).cmd()
	}
	switch roll(60) {
	case 0:
		c.Kind = wrongKinds()[roll(len(wrongKinds()))]
	case 1:
		c.Kind = 1 + roll(11)
	case 2:
		c.Args = append(c.Args, roll(9))
	case 3:
		c.Args = c.Args[:len(c.Args)-1]
	case 4:
		c.Args[roll(len(c.Args))] = wrongArgs()[roll(len(wrongArgs()))]
	case 5:
		c.Args = nil
	}
	return c
}

// checkFollows is what follows: the books are right, all of an instrument together are 0, no holder lacks any, and lots are just the balances.
func checkFollows(t *testing.T, b impl.Books) {
	t.Helper()
	if !impl.BooksOk(b) || !booksRight(b) {
		t.Errorf("books that are not right: %v", b)
	}
	for _, i := range b.Instrs {
		sum := 0
		for _, a := range b.Accounts {
			amount := amountIn(b.Bals, a.No, i.No)
			sum += amount
			if a.Kind == impl.Holder && amount < 0 {
				t.Errorf("%d lacks some of %d: %v", a.No, i.No, b)
			}
			pieces, _ := totals(ownLots(b.Lots, a.No, i.No))
			if a.Kind == impl.Holder && i.Kind == impl.Paper && pieces != amount || (a.Kind != impl.Holder || i.Kind != impl.Paper) && pieces != 0 {
				t.Errorf("lots of %d of %d: %d pieces, and it has %d", a.No, i.No, pieces, amount)
			}
		}
		if sum != 0 {
			t.Errorf("all of %d together are %d: %v", i.No, sum, b)
		}
	}
}

// openingRow tells the accounts and instruments that most drawn commands name.
func openingRow() []impl.Cmd {
	row := []impl.Cmd{}
	for _, a := range corpBooks().Accounts {
		row = append(row, accountCall(a.No, a.Kind).cmd())
	}
	for _, i := range corpBooks().Instrs {
		row = append(row, instrCall(i.No, i.Kind).cmd())
	}
	return row
}

// drawnRow are n commands from new books on, drawn by what the ones ahead of them came to by the words.
func drawnRow(t *testing.T, seed int, n int, tally map[int]map[int]int) []impl.Cmd {
	t.Helper()
	roll := dice(70000 + seed)
	row, b := []impl.Cmd{}, impl.BooksNew()
	for i := range n {
		c := diceCmd(b, roll)
		if seed%3 > 0 && i < len(openingRow()) {
			c = openingRow()[i]
		}
		checkApplyByWords(t, b, c)
		next, reply := wantApply(b, c)
		if reply.Code == impl.BkDone {
			b = next
			checkFollows(t, b)
		}
		if tally[c.Kind] == nil {
			tally[c.Kind] = map[int]int{}
		}
		tally[c.Kind][reply.Code]++
		row = append(row, c)
	}
	return row
}

// Whatever is commanded from new books on, the books are right; a row is its commands one behind the other, and two rows of its halves.
func TestP10Walks(t *testing.T) {
	tally := map[int]map[int]int{}
	for seed := range 90 {
		row := drawnRow(t, seed, 300, tally)
		checkRunByWords(t, impl.BooksNew(), row)
		checkInTurn(t, impl.BooksNew(), row)
		for _, cut := range []int{1, 150, 299, seed * 3} {
			checkInParts(t, impl.BooksNew(), row, cut)
		}
		b, replies := impl.CmdRun(impl.BooksNew(), row)
		checkFollows(t, b)
		if len(replies) != 300 {
			t.Error("replies", len(replies))
		}
		// The same row once more, to books that have all of it behind them.
		checkRunByWords(t, b, row)
		again, _ := impl.CmdRun(b, row)
		checkFollows(t, again)
	}
	for _, k := range cmdKinds() {
		if tally[k.kind][impl.BkDone] < 60 || tally[k.kind][impl.BkBad] < 30 {
			t.Error("too few of a kind", k, tally[k.kind])
		}
	}
}

// One command behind the other, each as a row of its own, comes to what the whole row comes to.
func TestP10RowsOfOneInTurn(t *testing.T) {
	for seed := range 20 {
		row := drawnRow(t, 500+seed, 200, map[int]map[int]int{})
		b, replies := impl.BooksNew(), []impl.Reply{}
		for _, c := range row {
			next, reply := impl.CmdRun(b, []impl.Cmd{c})
			if len(reply) != 1 || reply[0].Code != impl.BkDone && (!sameBooks(next, b) || reply[0].Value != 0) {
				t.Errorf("%v of %v: %v, %v", c, b, next, reply)
			}
			b, replies = next, append(replies, reply...)
		}
		checkRun(t, impl.BooksNew(), row, b, replies)
		// What was refused can be left out.
		done := []impl.Cmd{}
		for i, c := range row {
			if replies[i].Code == impl.BkDone {
				done = append(done, c)
			}
		}
		left, _ := impl.CmdRun(impl.BooksNew(), done)
		if !impl.BooksSame(left, b) {
			t.Errorf("without what was refused: %v; want %v", left, b)
		}
	}
}

// Books that have all that they can have: rows of drawn commands leave them right.
func TestP10WalkOfFullBooks(t *testing.T) {
	roll := dice(23)
	codes := map[int]int{}
	for range 6 {
		row := []impl.Cmd{}
		for range 150 {
			no, other, paper := 1+roll(20), 1+roll(20), 1+roll(7)
			row = append(row, cmdsOf(
				moveCall(no, other, paper, 1+roll(11), 1+roll(3)), issueCall(20, no, paper, 1+roll(9), roll(5)), settleCall(10+roll(30), 1+roll(3)), cancelCall(10+roll(32)),
				netCall(10+roll(30), 10+roll(30), 1+roll(3)), splitCall(paper, 1+roll(5), 1+roll(5), 20), payCall(paper, 6+roll(3), 20, roll(90)), accountCall(18+roll(4), 1),
				tradeCall(10+roll(40), no, other, paper, 1+roll(9), 7, roll(9)),
			)[roll(9)])
		}
		checkRunByWords(t, fullBooks(), row)
		checkInParts(t, fullBooks(), row, roll(151))
		b, replies := impl.CmdRun(fullBooks(), row)
		checkFollows(t, b)
		for _, r := range replies {
			codes[r.Code]++
		}
	}
	if codes[impl.BkDone] < 100 || codes[impl.BkFull] < 20 || codes[impl.BkShort] < 20 || codes[impl.BkState] < 20 {
		t.Error("too few of a code", codes)
	}
}

// cmdRoom are commands with marked room behind the row, and behind the arguments of each.
type cmdRoom struct {
	whole []impl.Cmd
	args  [][]int
	list  []impl.Cmd
}

func roomyCmds(given []impl.Cmd) cmdRoom {
	r := cmdRoom{whole: make([]impl.Cmd, len(given)+30)}
	for i := range r.whole {
		c := impl.Cmd{Kind: spareMark}
		if i < len(given) {
			c = given[i]
		}
		args, own, _ := roomy(c.Args, spareMark)
		r.args = append(r.args, args)
		r.whole[i] = impl.Cmd{Kind: c.Kind, Args: own}
	}
	r.list = r.whole[:len(given)]
	return r
}

// kept says whether the commands and the room behind them are those of this row still.
func (r cmdRoom) kept(given []impl.Cmd) bool {
	fresh := roomyCmds(given)
	sameCmd := func(a impl.Cmd, b impl.Cmd) bool { return a.Kind == b.Kind && slices.Equal(a.Args, b.Args) }
	return slices.EqualFunc(r.whole, fresh.whole, sameCmd) && slices.EqualFunc(r.args, fresh.args, slices.Equal[[]int])
}

func (r cmdRoom) fill(x int) {
	for _, args := range r.args {
		fill(args, x)
	}
	fill(r.whole, impl.Cmd{Kind: x})
}

func (r cmdRoom) argsAre(x int) bool {
	return !slices.ContainsFunc(r.args, func(args []int) bool { return !allAre(args, x) })
}

// memoryRows are rows that are done, refused or not even begun.
func memoryRows() [][]impl.Cmd {
	return [][]impl.Cmd{
		nil, smallRow(), cmdsOf(doneCalls()...), cmdsOf(doneCalls()[0]), cmdsOf(cancelCall(900)), {{}}, {{Kind: 1, Args: []int{1, 2, 3}}}, wrongCmds()[:12],
		cmdsOf(rightTradeCalls()...), cmdsOf(rightCorpCalls()...), make([]impl.Cmd, 301), longRow(301),
	}
}

func memoryBooks() []impl.Books {
	return slices.Concat(rightBooks(), wrongBooks()[:30], booksOfMisfitLots()[:4], booksOfMisfitTrades()[:4], []impl.Books{smallBooks(), gainBooks([]int{0, 0}, []int{0}, sellThree(1, 7, top))})
}

func TestP22RunWritesIntoNothing(t *testing.T) {
	for _, given := range memoryBooks() {
		for _, row := range memoryRows() {
			r, q := roomyBooks(given), roomyCmds(row)
			next, replies := impl.CmdRun(r.books, q.list)
			if !r.kept(given) || !q.kept(row) {
				t.Errorf("%v of %v: what was given is written into", row, given)
			}
			answer, answers := cloneBooks(next), slices.Clone(replies)
			other, others := impl.CmdRun(r.books, q.list)
			fillBooks(other, -6)
			fill(others[:cap(others)], impl.Reply{Code: -6})
			fillBooks(r.books, -5)
			q.fill(-5)
			if !sameBooks(next, answer) || !slices.Equal(replies, answers) {
				t.Errorf("%v of %v: the answer shares memory", row, given)
			}
			fillBooks(next, -7)
			fill(replies[:cap(replies)], impl.Reply{Code: -7})
			if !r.allAre(-5) || !q.argsAre(-5) {
				t.Errorf("%v of %v: what was given shares memory with the answer", row, given)
			}
			checkRunByWords(t, given, row)
		}
	}
}

func TestP22ApplyWritesIntoNothing(t *testing.T) {
	cmds := slices.Concat(cmdsOf(doneCalls()...), cmdsOf(allRightCalls()...), []impl.Cmd{{}, {Kind: 1, Args: []int{1, 2, 3}}, {Kind: 6}, {Kind: 6, Args: []int{-1}}, {Kind: 12, Args: []int{1}}})
	for _, c := range allRefused() {
		cmds = append(cmds, c.call.cmd())
	}
	for _, given := range memoryBooks() {
		for _, c := range cmds {
			r, q := roomyBooks(given), roomyCmds([]impl.Cmd{c})
			impl.CmdOk(q.list[0])
			next, reply := impl.CmdApply(r.books, q.list[0])
			if !r.kept(given) || !q.kept([]impl.Cmd{c}) {
				t.Errorf("%v of %v: what was given is written into", c, given)
			}
			answer := cloneBooks(next)
			other, _ := impl.CmdApply(r.books, q.list[0])
			fillBooks(other, -6)
			fillBooks(r.books, -5)
			q.fill(-5)
			if !sameBooks(next, answer) {
				t.Errorf("%v of %v: the answer beside %v shares memory", c, given, reply)
			}
			fillBooks(next, -7)
			if !r.allAre(-5) || !q.argsAre(-5) {
				t.Errorf("%v of %v: what was given shares memory with the answer beside %v", c, given, reply)
			}
		}
	}
}

// No list of an answer is turned by what is written into another one of it.
func TestP22ListsOfOneRunShareNothing(t *testing.T) {
	fills := []func(b impl.Books, replies []impl.Reply){
		func(b impl.Books, _ []impl.Reply) { fill(b.Accounts[:cap(b.Accounts)], impl.Account{No: -6}) },
		func(b impl.Books, _ []impl.Reply) { fill(b.Instrs[:cap(b.Instrs)], impl.Instr{No: -6}) },
		func(b impl.Books, _ []impl.Reply) { fill(b.Bals[:cap(b.Bals)], impl.Bal{Account: -6}) },
		func(b impl.Books, _ []impl.Reply) { fill(b.Lots[:cap(b.Lots)], impl.Lot{Account: -6}) },
		func(b impl.Books, _ []impl.Reply) { fill(b.Trades[:cap(b.Trades)], impl.Trade{No: -6}) },
		func(_ impl.Books, replies []impl.Reply) { fill(replies[:cap(replies)], impl.Reply{Code: -6}) },
	}
	for _, given := range memoryBooks() {
		for _, row := range memoryRows() {
			for i, write := range fills {
				next, replies := impl.CmdRun(given, row)
				want, wantReplies := cloneBooks(next), slices.Clone(replies)
				write(next, replies)
				write(want, wantReplies)
				if !sameBooks(next, want) || !slices.Equal(replies, wantReplies) {
					t.Errorf("%v of %v: what is written into list %d is seen in another one", row, given, i)
				}
			}
		}
	}
}

// Commands may share their arguments with one another: each one is what it says, and nothing is written there.
func TestP22CommandsThatShareTheirArguments(t *testing.T) {
	all := []int{1, 2, 7, 1, 5, 9, 3}
	row := []impl.Cmd{
		{Kind: impl.CmAccount, Args: all[:2]}, {Kind: impl.CmAccount, Args: all[1:2:2]}, {Kind: impl.CmAccount, Args: all[2:4]}, {Kind: impl.CmInstr, Args: all[4:5]},
		{Kind: impl.CmInstr, Args: all[3:5]}, {Kind: impl.CmInstr, Args: all[1:3]}, {Kind: impl.CmAccount, Args: all[5:7]}, {Kind: impl.CmIssue, Args: all[:5]}, {Kind: impl.CmTrade, Args: all},
		{Kind: impl.CmInstr, Args: all[:2]}, {Kind: impl.CmIssue, Args: append([]int{1, 7, 1}, all[4:6]...)},
	}
	wantArgs := slices.Clone(all)
	for range 3 {
		checkRunByWords(t, impl.BooksNew(), row)
		if !slices.Equal(all, wantArgs) {
			t.Error("the arguments are written into", all)
		}
	}
	b, _ := impl.CmdRun(impl.BooksNew(), row)
	if len(b.Accounts) != 3 || len(b.Instrs) != 1 || len(b.Bals) != 2 {
		t.Error("books by shared arguments", b)
	}
}

func TestP22SameWritesIntoNoBooks(t *testing.T) {
	for _, given := range memoryBooks() {
		for _, other := range []impl.Books{given, {}, someBooks(), turnedBooks(someBooks())[0], cutBooks(someBooks())[2]} {
			a, b := roomyBooks(given), roomyBooks(other)
			impl.BooksSame(a.books, b.books)
			impl.BooksSame(b.books, a.books)
			if !a.kept(given) || !b.kept(other) {
				t.Errorf("BooksSame of %v and %v writes into them", given, other)
			}
		}
	}
}

func TestP22CommandsAnswerAtAnyNumbers(t *testing.T) {
	odd := []int{math.MinInt, math.MinInt + 1, -top - 1, -top, -1, 0, 1, 2, 5, 7, 1000, 1001, top, top + 1, 1 << 62, math.MaxInt}
	books := []impl.Books{{}, someBooks(), farBooks(), wrongBooks()[0], booksOfWrongBals()[0]}
	for _, kind := range append(wrongKinds(), 1, 2, 3, 4, 5, 6, 7, 8, 9, 10, 11) {
		for n := range 9 {
			for i := range odd {
				args := []int{}
				for j := range n {
					args = append(args, odd[(i+j*5)%len(odd)])
				}
				c := impl.Cmd{Kind: kind, Args: args}
				checkCmdOk(t, c, cmdRight(c))
				for _, b := range books {
					checkApplyByWords(t, b, c)
					checkRunByWords(t, b, []impl.Cmd{c, {Kind: kind, Args: repeated(n, odd[i])}, c})
				}
			}
		}
	}
}
