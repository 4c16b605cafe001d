package tests

import (
	"bytes"
	"math"
	"slices"
	"testing"

	"loop.example/g00110/impl"
)

// formsOf are the forms of a command's numbers, each by itself.
func formsOf(c impl.Cmd) [][]byte {
	forms := [][]byte{}
	for _, x := range append([]int{c.Kind}, c.Args...) {
		forms = append(forms, wantForm(x))
	}
	return forms
}

// withForm puts other bytes in the place of one form.
func withForm(forms [][]byte, place int, other []byte) []byte {
	turned := slices.Clone(forms)
	turned[place] = other
	return slices.Concat(turned...)
}

// longForms say the same number as a form, with more bytes than it needs.
func longForms(form []byte) [][]byte {
	long := slices.Clone(form)
	long[len(long)-1] += 128
	list := [][]byte{}
	for more := range 10 {
		list = append(list, slices.Concat(long, copiesOf(more, 128), []byte{0}))
	}
	return list
}

// formsTooLong have more than 9 bytes, whatever they say.
func formsTooLong() [][]byte {
	list := [][]byte{}
	for _, one := range []byte{128, 129, 134, 255} {
		for _, n := range []int{9, 10, 11, 17, 18, 40} {
			for _, last := range []byte{1, 2, 6, 127} {
				list = append(list, append(copiesOf(n, one), last))
			}
			list = append(list, copiesOf(n, one))
		}
	}
	// What goes round at 64 bits would say 6 again.
	return append(list, []byte{134, 128, 128, 128, 128, 128, 128, 128, 128, 2}, []byte{134, 128, 128, 128, 128, 128, 128, 128, 128, 128, 1})
}

// greatNums are above MaxAmount.
func greatNums() []int {
	return []int{top + 1, top + 2, top + 128, 2*top - 1, 2 * top, 2*top + 1, 1<<56 - 1, 1 << 56, 1<<56 + 1, 1 << 62, 1<<62 + 1, math.MaxInt - 1, math.MaxInt}
}

func TestP12ReadOfNothing(t *testing.T) {
	checkNoCmd(t, nil)
	checkNoCmd(t, []byte{})
	// The room behind the bytes is no part of them.
	whole := []byte{6, 5, 6, 7}
	checkNoCmd(t, whole[:0])
	checkNoCmd(t, whole[:1])
	checkCmdRead(t, whole[:2], cmdOf(impl.CmCancel, 5), true)
	checkNoCmd(t, whole[:3])
}

func TestP12ReadOfCommandsCutShort(t *testing.T) {
	for _, p := range somePackedCmds() {
		for n := range len(p.bytes) {
			checkNoCmd(t, p.bytes[:n])
			checkNoCmd(t, slices.Clone(p.bytes[:n]))
		}
		// Without its first byte, or one amid, it is another one or none.
		for n := range len(p.bytes) {
			checkCmdReadByWords(t, slices.Delete(slices.Clone(p.bytes), n, n+1))
		}
		checkCmdRead(t, p.bytes, p.cmd, true)
	}
}

func TestP12ReadOfCommandsWithBytesBehind(t *testing.T) {
	for _, p := range somePackedCmds() {
		for _, behind := range [][]byte{{0}, {1}, {2}, {127}, {128}, {255}, {0, 0}, {128, 0}, {128, 1}, copiesOf(9, 128), copiesOf(12, 255), make([]byte, 300), p.bytes} {
			checkNoCmd(t, slices.Concat(p.bytes, behind))
		}
		for _, q := range handCmds() {
			checkNoCmd(t, slices.Concat(p.bytes, q.bytes))
		}
		for _, ahead := range [][]byte{{0}, {12}, {128}, {255}} {
			checkNoCmd(t, slices.Concat(ahead, p.bytes))
		}
	}
}

func TestP12ReadOfNoKind(t *testing.T) {
	kinds := []int{0, 12, 13, 127, 128, 129, 134, 139, 256, 257, 262, 267, 1 << 32, 1<<32 + 1, 1<<32 + 6, 1 << 62, 1<<62 + 6, math.MaxInt - 1, math.MaxInt}
	for _, kind := range kinds {
		for n := range 12 {
			for _, one := range []byte{0, 1, 5, 127} {
				checkNoCmd(t, slices.Concat(wantForm(kind), copiesOf(n, one)))
			}
		}
		for _, p := range handCmds() {
			checkNoCmd(t, withForm(formsOf(p.cmd), 0, wantForm(kind)))
		}
	}
	for one := range 256 {
		checkCmdReadByWords(t, []byte{byte(one)})
		for n := range 9 {
			checkCmdReadByWords(t, slices.Concat([]byte{byte(one)}, copiesOf(n, 1)))
			checkCmdReadByWords(t, slices.Concat([]byte{byte(one)}, copiesOf(n, 0)))
		}
	}
}

// As many arguments as another kind has are too few or too many.
func TestP12ReadOfTooFewAndTooManyArguments(t *testing.T) {
	for _, k := range cmdKinds() {
		for n := range 20 {
			for _, edge := range argForms() {
				b := slices.Concat([]byte{byte(k.kind)}, bytes.Repeat(edge.form, n))
				if n == k.args {
					checkCmdRead(t, b, impl.Cmd{Kind: k.kind, Args: repeated(n, edge.x)}, true)
				} else {
					checkNoCmd(t, b)
				}
			}
		}
	}
}

func TestP12ReadOfFormsThatAreNotTheShortest(t *testing.T) {
	checkNoCmd(t, []byte{134, 0, 5})
	checkNoCmd(t, []byte{6, 133, 0})
	checkNoCmd(t, []byte{6, 128, 0})
	for _, p := range somePackedCmds() {
		forms := formsOf(p.cmd)
		for place, form := range forms {
			for _, long := range longForms(form) {
				checkNoCmd(t, withForm(forms, place, long))
			}
		}
		checkCmdRead(t, slices.Concat(forms...), p.cmd, true)
	}
}

func TestP12ReadOfFormsOfMoreThanNineBytes(t *testing.T) {
	for _, p := range handCmds() {
		forms := formsOf(p.cmd)
		for place := range forms {
			for _, long := range formsTooLong() {
				checkNoCmd(t, withForm(forms, place, long))
			}
		}
	}
}

func TestP12ReadOfArgumentsThatAreTooGreat(t *testing.T) {
	checkNoCmd(t, []byte{6, 129, 128, 154, 166, 234, 175, 227, 1})
	checkCmdRead(t, []byte{6, 128, 128, 154, 166, 234, 175, 227, 1}, cmdOf(impl.CmCancel, 1000000000000000), true)
	for _, p := range somePackedCmds() {
		forms := formsOf(p.cmd)
		for place := 1; place < len(forms); place++ {
			for _, x := range greatNums() {
				checkNoCmd(t, withForm(forms, place, wantForm(x)))
			}
			args := slices.Clone(p.cmd.Args)
			args[place-1] = top
			checkCmdRead(t, withForm(forms, place, topForm()), impl.Cmd{Kind: p.cmd.Kind, Args: args}, true)
		}
	}
}

func TestP12CommandBytesTurned(t *testing.T) {
	counts := [2]int{}
	for _, p := range somePackedCmds() {
		b := slices.Clone(p.bytes)
		for place, old := range p.bytes {
			for by := 1; by < 256; by++ {
				b[place] = old + byte(by)
				checkCmdReadByWords(t, b)
				if c, ok := impl.CmdRead(b); !ok {
					counts[0]++
				} else if counts[1]++; c.Kind == p.cmd.Kind && slices.Equal(c.Args, p.cmd.Args) {
					t.Errorf("%v and %v are both %v", p.bytes, b, c)
				}
			}
			b[place] = old
		}
	}
	if min(counts[0], counts[1]) < 10000 {
		t.Error("too few of one kind", counts)
	}
}

// Of all bytes that there are of a few, and of drawn ones: what is read packs to just those bytes.
func TestP12ReadOfAllShortBytes(t *testing.T) {
	for one := range 256 {
		for two := range 256 {
			checkCmdReadByWords(t, []byte{byte(one), byte(two)})
			checkCmdReadByWords(t, []byte{6, byte(one), byte(two)})
			checkCmdReadByWords(t, []byte{1, byte(one), byte(two)})
			checkCmdReadByWords(t, []byte{7, byte(one), 1, byte(two)})
		}
	}
}

func TestP12ReadByTheWords(t *testing.T) {
	roll := dice(42)
	counts := [2]int{}
	list := somePackedCmds()
	for n := range 60000 {
		b := drawnBytes(n, roll(12))
		if roll(4) > 0 {
			b = slices.Clone(list[roll(len(list))].bytes)
			for range roll(3) {
				b[roll(len(b))] = byte(roll(256))
			}
			b = append(b[:len(b)-roll(8)/7], drawnBytes(n, roll(8)/7)...)
		}
		checkCmdReadByWords(t, b)
		if _, ok := impl.CmdRead(b); ok {
			counts[1]++
		} else {
			counts[0]++
		}
	}
	if min(counts[0], counts[1]) < 10000 {
		t.Error("too few of one kind", counts)
	}
}

// What is packed is done as the command itself, behind a row that is read from its bytes.
func TestP12CommandsThatAreReadAreDoneAlike(t *testing.T) {
	row, read := cmdsOf(doneCalls()...), []impl.Cmd{}
	for _, c := range row {
		b, _ := impl.CmdPack(c)
		again, ok := impl.CmdRead(b)
		if !ok {
			t.Errorf("%v is not read again of %v", c, b)
		}
		read = append(read, again)
	}
	want, wantReplies := impl.CmdRun(someBooks(), row)
	got, replies := impl.CmdRun(someBooks(), read)
	if !sameBooks(got, want) || !slices.Equal(replies, wantReplies) {
		t.Errorf("the row is %v, %v; read again it is %v, %v", want, wantReplies, got, replies)
	}
}

// oddCmdBytes are bytes of no command.
func oddCmdBytes() [][]byte {
	list := [][]byte{nil, {}, {0}, {6}, {12}, {128}, {12, 1}, {6, 1, 0}, {6, 128}, {6, 129, 128, 154, 166, 234, 175, 227, 1}, make([]byte, 300), copiesOf(300, 255), copiesOf(300, 6), copiesOf(70000, 5)}
	for _, long := range formsTooLong() {
		list = append(list, long, slices.Concat([]byte{6}, long), slices.Concat([]byte{5, 1, 2, 3, 4, 5, 6}, long))
	}
	return list
}

func TestP22CmdReadAnswersAtAnyBytes(t *testing.T) {
	for _, b := range oddCmdBytes() {
		checkNoCmd(t, b)
	}
}

func TestP22CmdReadWritesIntoNoBytes(t *testing.T) {
	given := oddCmdBytes()
	for _, p := range somePackedCmds() {
		given = append(given, p.bytes, p.bytes[:len(p.bytes)-1], slices.Concat(p.bytes, []byte{0}), slices.Concat(p.bytes, p.bytes))
	}
	for _, b := range given {
		checkNoByteTurned(t, "CmdRead", b, func(b []byte) []int {
			c, _ := impl.CmdRead(b)
			return c.Args
		})
	}
}
