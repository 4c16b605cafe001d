package tests

import (
	"slices"
	"testing"

	"loop.example/g00110/impl"
)

// applied is a command that is done: the books ahead of it, the call that it is, the books behind it and what it tells.
type applied struct {
	given impl.Books
	call  bookCall
	want  impl.Books
	value int
}

// doneCharts are done commands that tell nothing beside.
func doneCharts() []applied {
	b := someBooks()
	account, instr, trade := someBooks(), someBooks(), someBooks()
	account.Accounts = slices.Insert(account.Accounts, 6, impl.Account{No: 7, Kind: impl.Rounder})
	instr.Instrs = slices.Insert(instr.Instrs, 3, impl.Instr{No: 8, Kind: impl.Paper})
	trade.Trades = slices.Insert(trade.Trades, 2, tradeOf([8]int{4, 3, 2, 9, 2, 6, 8, impl.TrOpen}))
	issue := lotted(withBal(withBal(b, 1, 7, -31, nil), 3, 7, 9, lotRows{{3, 7, 3, 5, 60}, {3, 7, 10, 4, 9}}), 10)
	cash := withBal(withBal(b, 8, 6, -top+30, nil), 6, 6, top, nil)
	return []applied{
		{b, accountCall(7, impl.Rounder), account, 0},
		{impl.Books{}, accountCall(5, impl.Dealer), impl.Books{Accounts: chartOf(5, impl.Dealer)}, 0},
		{b, instrCall(8, impl.Paper), instr, 0},
		{impl.Books{}, instrCall(1000, impl.Cash), impl.Books{Instrs: instrsOf(1000, impl.Cash)}, 0},
		{b, issueCall(1, 3, 7, 4, 9), issue, 0},
		{b, issueCall(8, 6, 6, top-30, 0), cash, 0},
		{b, tradeCall(4, 3, 2, 9, 2, 6, 8), trade, 0},
		{b, cancelCall(1), inState(b, 1, impl.TrGone), 0},
	}
}

// doneMoves are done commands that tell what pieces cost, or gain.
func doneMoves() []applied {
	b := someBooks()
	paper := withBal(withBal(b, 2, 7, 8, lotRows{{2, 7, 4, 1, 17}, {2, 7, 9, 7, 20}}), 3, 7, 17, lotRows{{3, 7, 3, 5, 60}, {3, 7, 10, 12, 134}})
	cash := withBal(withBal(b, 2, 5, 0, nil), 3, 5, 450, nil)
	list := []applied{
		{b, moveCall(2, 3, 7, 12, impl.First), lotted(paper, 10), 134},
		{b, moveCall(2, 3, 5, 300, impl.Last), cash, 0},
	}
	// Two of five pieces that cost 60.
	for _, price := range []int{70, 24, 5, 0} {
		deal := dealBooks([8]int{4, 2, 3, 7, 2, 5, price, 1})
		settled := withBal(deal, 2, 7, 22, lotRows{{2, 7, 1, 10, 101}, {2, 7, 4, 3, 50}, {2, 7, 9, 7, 20}, {2, 7, 10, 2, price}})
		settled = lotted(paid(withBal(settled, 3, 7, 3, lotRows{{3, 7, 3, 3, 36}}), 2, 3, 5, price), 10)
		list = append(list, applied{deal, settleCall(4, impl.First), inState(settled, 4, impl.TrDone), price - 24})
		list = append(list, applied{deal, netCall(4, 4, impl.Mean), inState(settled, 4, impl.TrDone), price - 24})
		// And four pieces of another paper that cost nothing.
		both := dealBooks([8]int{4, 2, 3, 7, 2, 5, price, 1}, [8]int{6, 3, 2, 9, 4, 5, 30, 1})
		netted := inState(inState(settled, 4, impl.TrDone), 6, impl.TrDone)
		netted.Trades = allDone(both, 4, 6).Trades
		netted = withBal(withBal(netted, 2, 9, 0, nil), 3, 9, 4, lotRows{{3, 9, 11, 4, 30}})
		list = append(list, applied{both, netCall(1, 1000, impl.Last), lotted(paid(netted, 3, 2, 5, 30), 11), price + 6})
	}
	return list
}

// doneCorps are done commands that tell what was got, how many pieces there are, and who was paid.
func doneCorps() []applied {
	b := someBooks()
	split := withBal(b, 2, 7, 30, lotRows{{2, 7, 1, 15, 101}, {2, 7, 4, 5, 50}, {2, 7, 9, 10, 20}})
	split = withBal(withBal(split, 3, 7, 7, lotRows{{3, 7, 3, 7, 60}}), 1, 7, -39, nil)
	pay := withBal(withBal(withBal(b, 8, 5, -26, nil), 2, 5, 321, nil), 3, 5, 155, nil)
	none := withBal(withBal(withBal(b, 1, 7, -2, nil), 2, 7, 0, nil), 3, 7, 0, nil)
	return []applied{
		{b, fxCall(2, 4, 5, 6, 100, 7, 3), changed(b, 2, 4, 5, 6, 100, 233), 233},
		{b, fxCall(2, 4, 5, 6, 100, 1, 101), changed(b, 2, 4, 5, 6, 100, 0), 0},
		{b, splitCall(7, 3, 2, 1), split, 37},
		{b, splitCall(7, 1, 26, 1), none, 0},
		{b, payCall(7, 5, 8, 26), pay, 2},
		{b, payCall(9, 5, 8, 0), b, 1},
	}
}

// A command is its call: the books, the code, and what it tells beside.
func TestP10ApplyOfEachKind(t *testing.T) {
	kinds := map[int]int{}
	for _, c := range slices.Concat(doneCharts(), doneMoves(), doneCorps()) {
		checkApply(t, c.given, c.call.cmd(), c.want, impl.Reply{Value: c.value})
		checkCall(t, c.given, c.call, c.want, c.value, impl.BkDone)
		checkRun(t, c.given, cmdsOf(c.call), c.want, []impl.Reply{{Value: c.value}})
		kinds[c.call.cmd().Kind]++
	}
	if len(kinds) != 11 {
		t.Error("kinds that are not done", kinds)
	}
}

// refused is a command that is refused: the books, the call that it is, and the code.
type refused struct {
	given impl.Books
	call  bookCall
	code  int
}

func refusedCharts() []refused {
	b, full, far := someBooks(), fullBooks(), farBooks()
	return []refused{
		{b, accountCall(0, impl.Holder), impl.BkBad}, {b, accountCall(1001, impl.Holder), impl.BkBad}, {b, accountCall(7, 0), impl.BkBad}, {b, accountCall(7, 5), impl.BkBad},
		{b, accountCall(2, impl.Holder), impl.BkKnown}, {full, accountCall(20, impl.Dealer), impl.BkKnown}, {full, accountCall(21, impl.Holder), impl.BkFull},
		{b, instrCall(0, impl.Cash), impl.BkBad}, {b, instrCall(8, impl.Dealer), impl.BkBad}, {b, instrCall(8, 0), impl.BkBad},
		{b, instrCall(7, impl.Paper), impl.BkKnown}, {full, instrCall(8, impl.Cash), impl.BkKnown}, {full, instrCall(9, impl.Cash), impl.BkFull},
		{b, issueCall(1, 2, 7, 0, 5), impl.BkBad}, {b, issueCall(0, 2, 7, 1, 5), impl.BkBad}, {b, issueCall(1, 2, 1001, 1, 5), impl.BkBad},
		{b, issueCall(1, 7, 7, 5, 5), impl.BkNone}, {b, issueCall(1, 2, 8, 5, 5), impl.BkNone}, {b, issueCall(2, 3, 7, 5, 5), impl.BkKind}, {b, issueCall(1, 2, 5, 5, 5), impl.BkKind},
		{far, issueCall(2, 1, 1000, 1, 0), impl.BkLarge}, {full, issueCall(20, 1, 1, 1, 0), impl.BkFull}, {lotted(b, lastNo), issueCall(1, 2, 7, 1, 0), impl.BkFull},
		{b, tradeCall(4, 2, 3, 7, 0, 5, 9), impl.BkBad}, {b, tradeCall(1001, 2, 3, 7, 1, 5, 9), impl.BkBad}, {b, tradeCall(1, 2, 3, 7, 1, 5, 9), impl.BkKnown},
		{b, tradeCall(4, 2, 7, 7, 1, 5, 9), impl.BkNone}, {b, tradeCall(4, 2, 2, 7, 1, 5, 9), impl.BkKind}, {b, tradeCall(4, 2, 3, 5, 1, 7, 9), impl.BkKind},
		{full, tradeCall(100, 2, 3, 1, 1, 7, 9), impl.BkFull}, {full, tradeCall(10, 2, 3, 1, 1, 7, 9), impl.BkKnown},
		{b, cancelCall(0), impl.BkBad}, {b, cancelCall(top), impl.BkBad}, {b, cancelCall(4), impl.BkNone}, {b, cancelCall(3), impl.BkState}, {b, cancelCall(1000), impl.BkState},
	}
}

func refusedMoves() []refused {
	b, full, far := someBooks(), fullBooks(), farBooks()
	full.Trades = tradeRows{{1, 18, 19, 6, 9, 7, 10, 1}}.trades()
	short := dealBooks([8]int{1, 2, 3, 7, 5, 5, 301, 1}, [8]int{2, 2, 3, 7, 6, 5, 60, 1}, [8]int{3, 2, 3, 7, 1, 5, 60, 2})
	gains := gainBooks([]int{0, 0}, []int{0}, sellThree(1, 7, top), sellTwo(2, 8, 1))
	return []refused{
		{b, moveCall(2, 3, 7, 1, 0), impl.BkBad}, {b, moveCall(2, 3, 7, 1, 4), impl.BkBad}, {b, moveCall(2, 3, 7, 0, impl.First), impl.BkBad}, {b, moveCall(2, 3, 0, 1, impl.First), impl.BkBad},
		{b, moveCall(2, 7, 7, 1, impl.Mean), impl.BkNone}, {b, moveCall(2, 3, 8, 1, impl.Mean), impl.BkNone}, {b, moveCall(2, 2, 7, 1, impl.First), impl.BkKind},
		{b, moveCall(1, 2, 7, 1, impl.Last), impl.BkKind}, {b, moveCall(3, 2, 7, 6, impl.First), impl.BkShort}, {b, moveCall(3, 2, 5, 151, impl.First), impl.BkShort},
		{far, moveCall(1000, 1, 1, 1, impl.First), impl.BkLarge}, {full, moveCall(19, 1, 6, 9, impl.Last), impl.BkFull}, {lotted(b, lastNo), moveCall(2, 3, 7, 1, impl.First), impl.BkFull},
		{b, settleCall(1, 0), impl.BkBad}, {b, settleCall(1, 4), impl.BkBad}, {b, settleCall(0, impl.First), impl.BkBad}, {b, settleCall(1001, impl.First), impl.BkBad},
		{b, settleCall(4, impl.First), impl.BkNone}, {b, settleCall(3, impl.First), impl.BkState}, {b, settleCall(1000, impl.Mean), impl.BkState},
		{short, settleCall(1, impl.First), impl.BkShort}, {short, settleCall(2, impl.Last), impl.BkShort}, {far, settleCall(1, impl.First), impl.BkLarge},
		{full, settleCall(1, impl.Mean), impl.BkFull}, {lotted(b, lastNo), settleCall(1, impl.First), impl.BkFull},
		{b, netCall(1, 9, 0), impl.BkBad}, {b, netCall(1, 9, 4), impl.BkBad}, {b, netCall(0, 9, 1), impl.BkBad}, {b, netCall(1, 1001, 1), impl.BkBad},
		{b, netCall(2, 1000, impl.First), impl.BkNone}, {b, netCall(9, 1, impl.First), impl.BkNone}, {short, netCall(1, 2, impl.First), impl.BkShort}, {short, netCall(2, 9, impl.Mean), impl.BkShort},
		{far, netCall(1, 1000, impl.First), impl.BkLarge}, {gains, netCall(1, 9, impl.First), impl.BkLarge}, {full, netCall(1, 9, impl.Last), impl.BkFull},
	}
}

func refusedCorps() []refused {
	b := someBooks()
	return []refused{
		{b, fxCall(2, 4, 5, 6, 0, 1, 1), impl.BkBad}, {b, fxCall(2, 4, 5, 6, 1, 0, 1), impl.BkBad}, {b, fxCall(2, 4, 5, 6, 1, 1, 0), impl.BkBad}, {b, fxCall(0, 4, 5, 6, 1, 1, 1), impl.BkBad},
		{b, fxCall(2, 7, 5, 6, 1, 1, 1), impl.BkNone}, {b, fxCall(2, 4, 5, 8, 1, 1, 1), impl.BkNone}, {b, fxCall(2, 3, 5, 6, 1, 1, 1), impl.BkKind}, {b, fxCall(2, 4, 5, 5, 1, 1, 1), impl.BkKind},
		{b, fxCall(2, 4, 5, 6, 2, top, 1), impl.BkLarge}, {deskBooks([2]int{5, top}, [2]int{0, 0}), fxCall(2, 3, 5, 6, 1, 1, 1), impl.BkLarge}, {b, fxCall(2, 4, 5, 6, 301, 1, 1), impl.BkShort},
		{b, splitCall(7, 0, 1, 1), impl.BkBad}, {b, splitCall(7, 1, 0, 1), impl.BkBad}, {b, splitCall(7, 1000001, 1, 1), impl.BkBad}, {b, splitCall(7, 1, 1000001, 1), impl.BkBad}, {b, splitCall(7, 1, 1, 0), impl.BkBad},
		{b, splitCall(8, 2, 1, 1), impl.BkNone}, {b, splitCall(7, 2, 1, 7), impl.BkNone}, {b, splitCall(5, 2, 1, 1), impl.BkKind}, {b, splitCall(7, 2, 1, 4), impl.BkKind},
		{heldBooks(0, 0), splitCall(7, 2, 1, 1), impl.BkShort}, {heldBooks(top), splitCall(7, 2, 1, 1), impl.BkLarge}, {heldBooks(top, 1), splitCall(7, 1, 2, 1), impl.BkLarge},
		{manyLotBooks(41), splitCall(7, 1, 2, 1), impl.BkFull}, {manyLotBooks(3, 41), splitCall(7, 2, 1, 1), impl.BkFull},
		{b, payCall(0, 5, 1, 1), impl.BkBad}, {b, payCall(7, 5, 1001, 1), impl.BkBad}, {b, payCall(7, top, 1, 1), impl.BkBad},
		{b, payCall(8, 5, 1, 1), impl.BkNone}, {b, payCall(7, 5, 7, 1), impl.BkNone}, {b, payCall(7, 5, 4, 1), impl.BkKind}, {b, payCall(7, 7, 1, 1), impl.BkKind},
		{heldBooks(0, 0), payCall(7, 5, 1, 3), impl.BkShort}, {heldBooks(top, 1), payCall(7, 5, 1, 3), impl.BkLarge}, {paidBooks(top, 0, 0), payCall(7, 5, 1, 1), impl.BkLarge},
	}
}

func allRefused() []refused { return slices.Concat(refusedCharts(), refusedMoves(), refusedCorps()) }

// With each code that its call can tell a command tells 0 beside, and the books are as they were; with BkBad there are none.
func TestP10ApplyThatIsRefused(t *testing.T) {
	told := map[string]map[int]int{}
	for _, c := range allRefused() {
		want := c.given
		if c.code == impl.BkBad {
			want = impl.Books{}
		}
		checkCmdOk(t, c.call.cmd(), true)
		checkApply(t, c.given, c.call.cmd(), want, impl.Reply{Code: c.code})
		checkCall(t, c.given, c.call, want, 0, c.code)
		// In a row the books are as they were also with BkBad.
		checkRun(t, c.given, cmdsOf(c.call), c.given, []impl.Reply{{Code: c.code}})
		if told[c.call.what] == nil {
			told[c.call.what] = map[int]int{}
		}
		told[c.call.what][c.code]++
	}
	bad, known, none, kind, short, state, full, large := impl.BkBad, impl.BkKnown, impl.BkNone, impl.BkKind, impl.BkShort, impl.BkState, impl.BkFull, impl.BkLarge
	for what, codes := range map[string][]int{
		"account": {bad, known, full}, "instr": {bad, known, full}, "issue": {bad, none, kind, large, full}, "move": {bad, none, kind, short, large, full},
		"trade": {bad, known, none, kind, full}, "cancel": {bad, none, state}, "settle": {bad, none, state, short, large, full}, "net": {bad, none, short, large, full},
		"fx": {bad, none, kind, large, short}, "split": {bad, none, kind, large, short, full}, "pay": {bad, none, kind, large, short},
	} {
		for _, code := range codes {
			if told[what][code] == 0 {
				t.Error("a code that is not told", what, code)
			}
		}
		if len(told[what]) != len(codes) {
			t.Error("codes that none expects", what, told[what])
		}
	}
}

func TestP10ApplyOfWrongCommands(t *testing.T) {
	cmds := wrongCmds()
	for _, b := range []impl.Books{{}, someBooks(), farBooks(), fullBooks(), wrongBooks()[0], booksOfWrongBals()[0]} {
		for _, c := range cmds {
			checkApplyBad(t, b, c)
		}
	}
}

// Within the bounds of a command, each argument by turns is at an edge: by the words of its call it is done or refused.
func TestP10ApplyAtTheEdges(t *testing.T) {
	for _, call := range slices.Concat(doneCalls(), allRightCalls()) {
		for place := range call.cmd().Args {
			for _, x := range []int{0, 1, 2, 4, 5, 1000, 1001, 1000000, 1000001, top - 1, top} {
				c := call.cmd()
				c.Args[place] = x
				checkCmdOk(t, c, true)
				checkApplyByWords(t, someBooks(), c)
				checkApplyByWords(t, farBooks(), c)
			}
			for _, x := range wrongArgs() {
				c := call.cmd()
				c.Args[place] = x
				checkApplyBad(t, someBooks(), c)
			}
		}
	}
}

func TestP10ApplyOfWrongBooks(t *testing.T) {
	cmds := append(cmdsOf(doneCalls()...), impl.Cmd{}, impl.Cmd{Kind: 12, Args: []int{1}}, impl.Cmd{Kind: 1, Args: []int{7, 1, 1}}, impl.Cmd{Kind: 6, Args: []int{-1}}, impl.Cmd{Kind: 6})
	for _, b := range slices.Concat(wrongBooks(), booksOfWrongBals(), booksOfMisfitLots(), booksOfMisfitTrades()) {
		for _, c := range cmds {
			checkApplyBad(t, b, c)
		}
	}
}

func TestP10AppliesByTheWords(t *testing.T) {
	for _, b := range slices.Concat(rightBooks(), netBooks(), wrongBooks()[:40]) {
		for _, call := range slices.Concat(allRightCalls(), doneCalls(), badCalls()[:40], badTradeCalls()[:40], badNetCalls()[:40], badCorpCalls()[:40]) {
			checkApplyByWords(t, b, call.cmd())
		}
	}
}

// What a command asks of the arguments is what the call asks of its own, in their order: no two of them change places.
func TestP10ApplyTakesItsArgumentsInOrder(t *testing.T) {
	apart := 0
	for _, c := range slices.Concat(doneCharts(), doneMoves(), doneCorps()) {
		right := c.call.cmd()
		for i := range right.Args {
			for j := range i {
				turned := c.call
				turned.args[i], turned.args[j] = turned.args[j], turned.args[i]
				checkApplyByWords(t, c.given, turned.cmd())
				if next, reply := impl.CmdApply(c.given, turned.cmd()); reply != (impl.Reply{Value: c.value}) || !sameBooks(next, c.want) {
					apart++
				}
			}
		}
	}
	if apart < 100 {
		t.Error("too few that come to something else", apart)
	}
}
