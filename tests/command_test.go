package tests

import (
	"math"
	"slices"
	"testing"

	"loop.example/g00110/impl"
)

// cmdKind is a kind of command: the call that it is, its number, and how many arguments that has behind the books.
type cmdKind struct {
	what string
	kind int
	args int
}

func cmdKinds() []cmdKind {
	return []cmdKind{
		{"account", 1, 2}, {"instr", 2, 2}, {"issue", 3, 5}, {"move", 4, 5}, {"trade", 5, 7}, {"cancel", 6, 1},
		{"settle", 7, 2}, {"net", 8, 3}, {"fx", 9, 7}, {"split", 10, 4}, {"pay", 11, 4},
	}
}

// kindOf is the kind of that number, or none.
func kindOf(kind int) (cmdKind, bool) {
	for _, k := range cmdKinds() {
		if k.kind == kind {
			return k, true
		}
	}
	return cmdKind{}, false
}

// cmd is the call as a command.
func (c bookCall) cmd() impl.Cmd {
	for _, k := range cmdKinds() {
		if k.what == c.what {
			return impl.Cmd{Kind: k.kind, Args: slices.Clone(c.args[:k.args])}
		}
	}
	return impl.Cmd{}
}

func cmdsOf(calls ...bookCall) []impl.Cmd {
	list := []impl.Cmd{}
	for _, c := range calls {
		list = append(list, c.cmd())
	}
	return list
}

func cmdRight(c impl.Cmd) bool {
	k, found := kindOf(c.Kind)
	for _, x := range c.Args {
		if x < 0 || x > 1000000000000000 {
			return false
		}
	}
	return found && len(c.Args) == k.args
}

func wantApply(b impl.Books, c impl.Cmd) (impl.Books, impl.Reply) {
	if !cmdRight(c) {
		return impl.Books{}, impl.Reply{Code: impl.BkBad}
	}
	k, _ := kindOf(c.Kind)
	call := bookCall{what: k.what}
	copy(call.args[:], c.Args)
	next, told, code := call.want(b)
	return next, impl.Reply{Code: code, Value: told}
}

func wantRun(b impl.Books, list []impl.Cmd) (impl.Books, []impl.Reply) {
	replies := []impl.Reply{}
	if len(list) > 300 || !booksRight(b) {
		return b, replies
	}
	for _, c := range list {
		next, reply := wantApply(b, c)
		if reply.Code == impl.BkDone {
			b = next
		}
		replies = append(replies, reply)
	}
	return b, replies
}

func checkApply(t *testing.T, b impl.Books, c impl.Cmd, want impl.Books, wantReply impl.Reply) {
	t.Helper()
	if got, reply := impl.CmdApply(b, c); !sameBooks(got, want) || reply != wantReply {
		t.Errorf("CmdApply(%v, %v) = %v, %v; want %v, %v", b, c, got, reply, want, wantReply)
	}
}

func checkApplyBad(t *testing.T, b impl.Books, c impl.Cmd) {
	t.Helper()
	checkApply(t, b, c, impl.Books{}, impl.Reply{Code: impl.BkBad})
}

func checkApplyByWords(t *testing.T, b impl.Books, c impl.Cmd) {
	t.Helper()
	want, reply := wantApply(b, c)
	checkApply(t, b, c, want, reply)
}

func checkCmdOk(t *testing.T, c impl.Cmd, want bool) {
	t.Helper()
	if impl.CmdOk(c) != want {
		t.Errorf("CmdOk(%v) = %v", c, !want)
	}
}

// doneCalls are calls of each kind that someBooks do.
func doneCalls() []bookCall {
	return []bookCall{
		accountCall(7, impl.Rounder), instrCall(8, impl.Paper), issueCall(1, 3, 7, 4, 9), moveCall(2, 3, 7, 12, impl.First), tradeCall(4, 3, 2, 9, 2, 6, 8),
		cancelCall(1), settleCall(1, impl.Last), netCall(1, 9, impl.Mean), fxCall(2, 4, 5, 6, 100, 7, 3), splitCall(7, 3, 2, 1), payCall(7, 5, 8, 26),
	}
}

// wrongKinds are numbers that no kind has.
func wrongKinds() []int {
	return []int{0, 12, -1, 13, -2, -11, 14, 100, 257, 1 << 32, 1<<32 + 1, math.MaxInt, math.MinInt, math.MinInt + 1}
}

// wrongArgs are arguments that are out of bounds.
func wrongArgs() []int {
	return []int{-1, top + 1, -2, top + 2, -top, math.MaxInt, math.MinInt}
}

// wrongCmds break one rule each: a kind that there is not, an argument too many or too few, or one that is out of bounds; the rest is done in someBooks.
func wrongCmds() []impl.Cmd {
	list := []impl.Cmd{{}, {Kind: 12}, {Args: []int{1}}}
	for _, call := range doneCalls() {
		right := call.cmd()
		for _, kind := range wrongKinds() {
			list = append(list, impl.Cmd{Kind: kind, Args: right.Args})
		}
		few := right.Args[:len(right.Args)-1]
		for _, args := range [][]int{
			nil, {}, few, right.Args[:len(right.Args)/2], slices.Concat(right.Args, []int{0}), slices.Concat(right.Args, []int{1}), slices.Concat([]int{1}, right.Args),
			slices.Concat(right.Args, []int{top}), slices.Concat(right.Args, []int{-1}), slices.Concat(right.Args, right.Args), slices.Concat(right.Args, make([]int, 300)),
		} {
			list = append(list, impl.Cmd{Kind: right.Kind, Args: args})
		}
		for place := range right.Args {
			for _, x := range wrongArgs() {
				args := slices.Clone(right.Args)
				args[place] = x
				list = append(list, impl.Cmd{Kind: right.Kind, Args: args})
			}
		}
	}
	return list
}

func TestP10Constants(t *testing.T) {
	if impl.MaxRow != 300 {
		t.Error("limit", impl.MaxRow)
	}
	kinds := []int{
		impl.CmAccount, impl.CmInstr, impl.CmIssue, impl.CmMove, impl.CmTrade, impl.CmCancel, impl.CmSettle, impl.CmNet, impl.CmFx, impl.CmSplit, impl.CmPay,
	}
	if !slices.Equal(kinds, []int{1, 2, 3, 4, 5, 6, 7, 8, 9, 10, 11}) {
		t.Error("kinds", kinds)
	}
}

func TestP10CmdArgs(t *testing.T) {
	for _, k := range cmdKinds() {
		if got := impl.CmdArgs(k.kind); got != k.args {
			t.Errorf("CmdArgs(%d) = %d; want %d", k.kind, got, k.args)
		}
	}
	for _, kind := range wrongKinds() {
		if got := impl.CmdArgs(kind); got != -1 {
			t.Errorf("CmdArgs(%d) = %d; want -1", kind, got)
		}
	}
	for kind := -400; kind <= 400; kind++ {
		want := -1
		if k, found := kindOf(kind); found {
			want = k.args
		}
		if got := impl.CmdArgs(kind); got != want {
			t.Errorf("CmdArgs(%d) = %d; want %d", kind, got, want)
		}
	}
}

func TestP10CmdOk(t *testing.T) {
	for _, call := range doneCalls() {
		checkCmdOk(t, call.cmd(), true)
	}
	for _, c := range wrongCmds() {
		checkCmdOk(t, c, false)
	}
	// Whatever a call asks for, a command asks for no more than the bounds.
	for _, k := range cmdKinds() {
		for _, x := range []int{0, 1, 2, 1001, top - 1, top} {
			checkCmdOk(t, impl.Cmd{Kind: k.kind, Args: repeated(k.args, x)}, true)
			for place := range k.args {
				args := repeated(k.args, 5)
				args[place] = x
				checkCmdOk(t, impl.Cmd{Kind: k.kind, Args: args}, true)
			}
		}
	}
}

func TestP10CmdOkByItsArgs(t *testing.T) {
	for kind := -3; kind <= 14; kind++ {
		k, found := kindOf(kind)
		for n := range 12 {
			for _, x := range []int{0, 7, top} {
				checkCmdOk(t, impl.Cmd{Kind: kind, Args: repeated(n, x)}, found && n == k.args)
			}
			checkCmdOk(t, impl.Cmd{Kind: kind, Args: repeated(n, -1)}, false)
			checkCmdOk(t, impl.Cmd{Kind: kind, Args: repeated(n, top+1)}, false)
		}
		checkCmdOk(t, impl.Cmd{Kind: kind}, false)
	}
	// The room behind the arguments is no part of them.
	for _, k := range cmdKinds() {
		args := append(repeated(k.args, 3), -1, top+1, 3, 3)
		checkCmdOk(t, impl.Cmd{Kind: k.kind, Args: args[:k.args]}, true)
		checkCmdOk(t, impl.Cmd{Kind: k.kind, Args: repeated(k.args, 3)[:k.args-1]}, false)
	}
}

func TestP10CmdOkByTheWords(t *testing.T) {
	roll := dice(31)
	counts := [2]int{}
	for range 60000 {
		c := impl.Cmd{Kind: roll(16) - 2}
		n := roll(9)
		if k, found := kindOf(c.Kind); found && roll(4) > 0 {
			n = k.args
		}
		for range n {
			c.Args = append(c.Args, []int{0, 1, 2, 3, 4, 5, top, top - 1, 1000, 7, 9, 12, 40, 100, roll(top), -roll(2), top + roll(2)}[roll(17)])
		}
		checkCmdOk(t, c, cmdRight(c))
		if cmdRight(c) {
			counts[1]++
		} else {
			counts[0]++
		}
	}
	if min(counts[0], counts[1]) < 10000 {
		t.Error("too few of one kind", counts)
	}
}
