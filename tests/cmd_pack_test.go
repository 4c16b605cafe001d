package tests

import (
	"bytes"
	"math"
	"slices"
	"testing"

	"loop.example/g00110/impl"
)

// topForm is the form of the greatest argument that a command takes, byte by byte.
func topForm() []byte { return []byte{128, 128, 154, 166, 234, 175, 227, 1} }

// argForms are arguments at the edges of their forms and of what a command takes, byte by byte.
func argForms() []numForm {
	return []numForm{
		{0, []byte{0}}, {1, []byte{1}}, {127, []byte{127}}, {128, []byte{128, 1}}, {300, []byte{172, 2}}, {16383, []byte{255, 127}}, {16384, []byte{128, 128, 1}},
		{999999999999999, []byte{255, 255, 153, 166, 234, 175, 227, 1}}, {1000000000000000, topForm()},
	}
}

// packedCmd is a command and its bytes.
type packedCmd struct {
	cmd   impl.Cmd
	bytes []byte
}

func cmdOf(kind int, args ...int) impl.Cmd { return impl.Cmd{Kind: kind, Args: args} }

// handCmds are commands of each kind whose arguments are all of another size, so that each has its own place.
func handCmds() []packedCmd {
	return []packedCmd{
		{cmdOf(impl.CmAccount, 5, 300), []byte{1, 5, 172, 2}},
		{cmdOf(impl.CmInstr, 128, 2), []byte{2, 128, 1, 2}},
		{cmdOf(impl.CmIssue, 1, 0, 127, 128, 16384), []byte{3, 1, 0, 127, 128, 1, 128, 128, 1}},
		{cmdOf(impl.CmMove, 1000, 9, 8, 7, 3), []byte{4, 232, 7, 9, 8, 7, 3}},
		{cmdOf(impl.CmTrade, 1, 2, 3, 4, 500, 6, 7), []byte{5, 1, 2, 3, 4, 244, 3, 6, 7}},
		{cmdOf(impl.CmCancel, 1000000000000000), []byte{6, 128, 128, 154, 166, 234, 175, 227, 1}},
		{cmdOf(impl.CmSettle, 255, 1), []byte{7, 255, 1, 1}},
		{cmdOf(impl.CmNet, 1, 300, 2), []byte{8, 1, 172, 2, 2}},
		{cmdOf(impl.CmFx, 7, 6, 5, 4, 1000000, 2, 1), []byte{9, 7, 6, 5, 4, 192, 132, 61, 2, 1}},
		{cmdOf(impl.CmSplit, 9, 129, 256, 1), []byte{10, 9, 129, 1, 128, 2, 1}},
		{cmdOf(impl.CmPay, 1, 2, 3, 1000000000000000), []byte{11, 1, 2, 3, 128, 128, 154, 166, 234, 175, 227, 1}},
		{cmdOf(impl.CmCancel, 0), []byte{6, 0}},
		{cmdOf(impl.CmFx, 0, 0, 0, 0, 0, 0, 0), []byte{9, 0, 0, 0, 0, 0, 0, 0}},
	}
}

// edgeCmds are commands of each kind with each edge in all their places, and in each place alone.
func edgeCmds() []packedCmd {
	list := []packedCmd{}
	for _, k := range cmdKinds() {
		for _, edge := range argForms() {
			list = append(list, packedCmd{impl.Cmd{Kind: k.kind, Args: repeated(k.args, edge.x)}, slices.Concat([]byte{byte(k.kind)}, bytes.Repeat(edge.form, k.args))})
			for place := range k.args {
				args, b := make([]int, k.args), []byte{byte(k.kind)}
				for i := range args {
					args[i] = 40 + i
					form := []byte{byte(40 + i)}
					if i == place {
						args[i], form = edge.x, edge.form
					}
					b = append(b, form...)
				}
				list = append(list, packedCmd{impl.Cmd{Kind: k.kind, Args: args}, b})
			}
		}
	}
	return list
}

func somePackedCmds() []packedCmd { return slices.Concat(handCmds(), edgeCmds()) }

func wantCmdPack(c impl.Cmd) ([]byte, bool) {
	if !cmdRight(c) {
		return nil, false
	}
	return wantForms(append([]int{c.Kind}, c.Args...)), true
}

// wantCmdRead asks for the kind, for just as many arguments, for their bounds and for the end.
func wantCmdRead(b []byte) (impl.Cmd, bool) {
	kind, at, ok := wantGetNum(b, 0)
	k, found := kindOf(kind)
	if !ok || !found {
		return impl.Cmd{}, false
	}
	args, end, ok := wantGetNums(b, at, k.args)
	if !ok || end != len(b) || slices.Max(args) > 1000000000000000 {
		return impl.Cmd{}, false
	}
	return impl.Cmd{Kind: kind, Args: args}, true
}

func checkCmdPack(t *testing.T, c impl.Cmd, want []byte, wantOk bool) {
	t.Helper()
	if got, ok := impl.CmdPack(c); !bytes.Equal(got, want) || ok != wantOk {
		t.Errorf("CmdPack(%v) = %v, %v; want %v, %v", c, got, ok, want, wantOk)
	}
}

func checkCmdRead(t *testing.T, b []byte, want impl.Cmd, wantOk bool) {
	t.Helper()
	if got, ok := impl.CmdRead(b); got.Kind != want.Kind || !slices.Equal(got.Args, want.Args) || ok != wantOk {
		t.Errorf("CmdRead(%v) = %v, %v; want %v, %v", b, got, ok, want, wantOk)
	}
}

func checkNoCmd(t *testing.T, b []byte) {
	t.Helper()
	checkCmdRead(t, b, impl.Cmd{}, false)
}

// checkCmdReadByWords also wants what is read to pack to just those bytes.
func checkCmdReadByWords(t *testing.T, b []byte) {
	t.Helper()
	want, ok := wantCmdRead(b)
	checkCmdRead(t, b, want, ok)
	if c, ok := impl.CmdRead(b); ok {
		checkCmdPack(t, c, b, true)
	}
}

func checkBothWays(t *testing.T, p packedCmd) {
	t.Helper()
	checkCmdPack(t, p.cmd, p.bytes, true)
	checkCmdRead(t, p.bytes, p.cmd, true)
}

func TestP12CommandsByHand(t *testing.T) {
	for _, p := range handCmds() {
		checkBothWays(t, p)
	}
}

func TestP12CommandsOfEachKindAtTheEdges(t *testing.T) {
	kinds := map[int]int{}
	for _, p := range edgeCmds() {
		checkBothWays(t, p)
		checkCmdOk(t, p.cmd, true)
		kinds[p.cmd.Kind]++
	}
	if len(kinds) != 11 {
		t.Error("a kind is missing", kinds)
	}
}

func TestP12CommandsAreReadAsTheyWere(t *testing.T) {
	for _, call := range slices.Concat(doneCalls(), allRightCalls()) {
		b, ok := wantCmdPack(call.cmd())
		if !ok {
			t.Fatal("not right", call)
		}
		checkBothWays(t, packedCmd{call.cmd(), b})
	}
	roll := dice(41)
	for _, k := range cmdKinds() {
		for range 2000 {
			args := []int{}
			for range k.args {
				args = append(args, []int{roll(9), roll(1001), roll(1 << 20), roll(1<<25)*roll(1<<24) + roll(9), top - roll(3), 127 + roll(2)}[roll(6)])
			}
			c := impl.Cmd{Kind: k.kind, Args: args}
			b, _ := wantCmdPack(c)
			checkBothWays(t, packedCmd{c, b})
		}
	}
}

// No two commands have the same bytes, and none begins as another one does in whole.
func TestP12NoCommandBeginsWithAnother(t *testing.T) {
	list := somePackedCmds()
	for _, p := range list {
		b, _ := impl.CmdPack(p.cmd)
		for _, q := range list {
			same := p.cmd.Kind == q.cmd.Kind && slices.Equal(p.cmd.Args, q.cmd.Args)
			if other, _ := impl.CmdPack(q.cmd); bytes.HasPrefix(other, b) != same {
				t.Errorf("%v is %v, %v is %v", p.cmd, b, q.cmd, other)
			}
		}
	}
}

func TestP12NoBytesOfWrongCommands(t *testing.T) {
	for _, c := range wrongCmds() {
		checkCmdPack(t, c, nil, false)
	}
	for _, kind := range append(wrongKinds(), -12, math.MaxInt-1) {
		checkCmdPack(t, impl.Cmd{Kind: kind}, nil, false)
		for n := range 9 {
			for _, x := range []int{0, 1, 128, top, -1} {
				checkCmdPack(t, impl.Cmd{Kind: kind, Args: repeated(n, x)}, nil, false)
			}
		}
	}
	for _, k := range cmdKinds() {
		checkCmdPack(t, impl.Cmd{Kind: k.kind}, nil, false)
		for n := range 20 {
			for _, x := range []int{0, 1, 128, top} {
				c := impl.Cmd{Kind: k.kind, Args: repeated(n, x)}
				want, ok := wantCmdPack(c)
				if ok != (n == k.args) {
					t.Errorf("%v: %v", c, ok)
				}
				checkCmdPack(t, c, want, ok)
			}
		}
		for place := range k.args {
			for _, x := range []int{-1, top + 1, -2, top + 2, -128, -top, -top - 1, 2 * top, 1 << 62, -1 << 62, math.MaxInt, math.MinInt} {
				for _, other := range []int{0, 1, top} {
					args := repeated(k.args, other)
					args[place] = x
					checkCmdPack(t, impl.Cmd{Kind: k.kind, Args: args}, nil, false)
				}
			}
		}
	}
	// The room behind the arguments is no part of them.
	checkCmdPack(t, impl.Cmd{Kind: impl.CmNet, Args: []int{1, 300, 2}[:2]}, nil, false)
	checkCmdPack(t, impl.Cmd{Kind: impl.CmNet, Args: []int{1, 300, 2, -1}[:3]}, []byte{8, 1, 172, 2, 2}, true)
}

// The command that is nothing is none: it has no bytes, and stands beside each false alike.
func TestP12TheZeroCommand(t *testing.T) {
	checkCmdPack(t, impl.Cmd{}, nil, false)
	for _, b := range [][]byte{nil, {}, {0}, {0, 0}, {1}, {12}, {6, 1, 0}, {6, 129, 128, 154, 166, 234, 175, 227, 1}, {128, 0}} {
		c, ok := impl.CmdRead(b)
		if ok || c.Kind != 0 || len(c.Args) != 0 {
			t.Errorf("CmdRead(%v) = %v, %v", b, c, ok)
		}
	}
}

func TestP22CmdPackWritesIntoNoArguments(t *testing.T) {
	cmds := append(wrongCmds(), impl.Cmd{Kind: impl.CmNet, Args: repeated(400, 1)})
	for _, p := range somePackedCmds() {
		cmds = append(cmds, p.cmd)
	}
	for _, c := range cmds {
		q := roomyCmds([]impl.Cmd{c})
		b, ok := impl.CmdPack(q.list[0])
		other, _ := impl.CmdPack(q.list[0])
		if !q.kept([]impl.Cmd{c}) {
			t.Errorf("CmdPack(%v): what was given is written into", c)
		}
		fill(other[:cap(other)], 201)
		q.fill(-5)
		want, wantOk := wantCmdPack(c)
		if !bytes.Equal(b, want) || ok != wantOk {
			t.Errorf("CmdPack(%v): the answer shares memory: %v, %v", c, b, ok)
		}
		fill(b[:cap(b)], 202)
		if !q.argsAre(-5) {
			t.Errorf("CmdPack(%v): what was given shares memory with the answer", c)
		}
		checkCmdPack(t, c, want, wantOk)
	}
}

func TestP22CmdPackAnswersAtAnyNumbers(t *testing.T) {
	odd := []int{math.MinInt, math.MinInt + 1, -top - 1, -top, -128, -1, 0, 1, 127, 128, top, top + 1, 1 << 62, math.MaxInt}
	for _, kind := range append(wrongKinds(), 1, 2, 3, 4, 5, 6, 7, 8, 9, 10, 11) {
		for n := range 9 {
			for i := range odd {
				args := []int{}
				for j := range n {
					args = append(args, odd[(i+j*5)%len(odd)])
				}
				c := impl.Cmd{Kind: kind, Args: args}
				want, ok := wantCmdPack(c)
				checkCmdPack(t, c, want, ok)
			}
		}
	}
}
