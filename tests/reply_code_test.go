package tests

import (
	"bytes"
	"math"
	"slices"
	"testing"

	"loop.example/g00110/impl"
)

// valueForms are values and the forms of them and MaxAmount together, byte by byte.
func valueForms() []numForm {
	return []numForm{
		{0, topForm()}, {1, []byte{129, 128, 154, 166, 234, 175, 227, 1}}, {-1, []byte{255, 255, 153, 166, 234, 175, 227, 1}}, {127, []byte{255, 128, 154, 166, 234, 175, 227, 1}},
		{128, []byte{128, 129, 154, 166, 234, 175, 227, 1}}, {-3, []byte{253, 255, 153, 166, 234, 175, 227, 1}},
		{1000000000000000, []byte{128, 128, 180, 204, 212, 223, 198, 3}}, {999999999999999, []byte{255, 255, 179, 204, 212, 223, 198, 3}},
		{-1000000000000000, []byte{0}}, {-999999999999999, []byte{1}}, {-999999999999873, []byte{127}}, {-999999999999872, []byte{128, 1}},
	}
}

// packedReply is a reply and its bytes.
type packedReply struct {
	reply impl.Reply
	bytes []byte
}

// somePackedReplies are replies of each code and each of these values.
func somePackedReplies() []packedReply {
	list := []packedReply{}
	for code := range 9 {
		for _, v := range valueForms() {
			list = append(list, packedReply{impl.Reply{Code: code, Value: v.x}, append([]byte{byte(code)}, v.form...)})
		}
	}
	return list
}

func replyRight(r impl.Reply) bool {
	return r.Code >= 0 && r.Code <= 8 && r.Value >= -1000000000000000 && r.Value <= 1000000000000000
}

func wantReplyPack(r impl.Reply) ([]byte, bool) {
	if !replyRight(r) {
		return nil, false
	}
	return wantForms([]int{r.Code, r.Value + 1000000000000000}), true
}

func wantReplyRead(b []byte) (impl.Reply, bool) {
	nums, end, ok := wantGetNums(b, 0, 2)
	if !ok || end != len(b) || nums[0] > 8 || nums[1] > 2000000000000000 {
		return impl.Reply{}, false
	}
	return impl.Reply{Code: nums[0], Value: nums[1] - 1000000000000000}, true
}

func checkReplyPack(t *testing.T, r impl.Reply, want []byte, wantOk bool) {
	t.Helper()
	if got, ok := impl.ReplyPack(r); !bytes.Equal(got, want) || ok != wantOk {
		t.Errorf("ReplyPack(%v) = %v, %v; want %v, %v", r, got, ok, want, wantOk)
	}
}

func checkReplyRead(t *testing.T, b []byte, want impl.Reply, wantOk bool) {
	t.Helper()
	if got, ok := impl.ReplyRead(b); got != want || ok != wantOk {
		t.Errorf("ReplyRead(%v) = %v, %v; want %v, %v", b, got, ok, want, wantOk)
	}
}

func checkNoReply(t *testing.T, b []byte) {
	t.Helper()
	checkReplyRead(t, b, impl.Reply{}, false)
}

// checkReplyReadByWords also wants what is read to pack to just those bytes.
func checkReplyReadByWords(t *testing.T, b []byte) {
	t.Helper()
	want, ok := wantReplyRead(b)
	checkReplyRead(t, b, want, ok)
	if r, ok := impl.ReplyRead(b); ok {
		checkReplyPack(t, r, b, true)
	}
}

func TestP12RepliesByHand(t *testing.T) {
	checkReplyPack(t, impl.Reply{}, []byte{0, 128, 128, 154, 166, 234, 175, 227, 1}, true)
	checkReplyPack(t, impl.Reply{Code: impl.BkShort, Value: -3}, []byte{5, 253, 255, 153, 166, 234, 175, 227, 1}, true)
	checkReplyPack(t, impl.Reply{Code: impl.BkLarge, Value: top}, []byte{8, 128, 128, 180, 204, 212, 223, 198, 3}, true)
	checkReplyPack(t, impl.Reply{Code: impl.BkDone, Value: -top}, []byte{0, 0}, true)
	checkReplyPack(t, impl.Reply{Code: impl.BkBad, Value: -top + 300}, []byte{1, 172, 2}, true)
	checkReplyRead(t, []byte{3, 172, 2}, impl.Reply{Code: impl.BkNone, Value: -999999999999700}, true)
	for _, p := range somePackedReplies() {
		checkReplyPack(t, p.reply, p.bytes, true)
		checkReplyRead(t, p.bytes, p.reply, true)
	}
}

func TestP12RepliesAreReadAsTheyWere(t *testing.T) {
	roll := dice(43)
	for range 20000 {
		r := impl.Reply{Code: roll(9), Value: []int{roll(300) - 150, roll(1<<25)*roll(1<<24) - roll(1<<25)*roll(1<<24), top - roll(200), roll(200) - top}[roll(4)]}
		b, _ := wantReplyPack(r)
		checkReplyPack(t, r, b, true)
		checkReplyRead(t, b, r, true)
	}
	// What commands come to: each reply of a row is read as it was.
	_, replies := impl.CmdRun(someBooks(), slices.Concat(cmdsOf(doneCalls()...), wrongCmds()[:50]))
	for _, r := range replies {
		b, ok := impl.ReplyPack(r)
		if !ok {
			t.Errorf("%v is not packed", r)
		}
		checkReplyRead(t, b, r, true)
	}
}

func TestP12NoBytesOfWrongReplies(t *testing.T) {
	codes := []int{-1, 9, -2, 10, -8, 127, 128, 256, 264, -256, 1 << 32, 1<<32 + 8, math.MaxInt, math.MinInt, math.MinInt + 8}
	values := []int{top + 1, -top - 1, top + 2, -top - 2, 2 * top, -2 * top, 1 << 62, -1 << 62, math.MaxInt, math.MaxInt - top, math.MinInt, math.MinInt + top, math.MaxInt - top + 1}
	for _, code := range codes {
		for _, value := range append(values, 0, 1, -1, top, -top) {
			checkReplyPack(t, impl.Reply{Code: code, Value: value}, nil, false)
		}
	}
	for code := range 9 {
		for _, value := range values {
			checkReplyPack(t, impl.Reply{Code: code, Value: value}, nil, false)
		}
	}
	for code := -300; code <= 300; code++ {
		for _, value := range []int{0, top, -top} {
			r := impl.Reply{Code: code, Value: value}
			want, ok := wantReplyPack(r)
			checkReplyPack(t, r, want, ok)
		}
	}
}

func TestP12ReplyReadOfNothing(t *testing.T) {
	checkNoReply(t, nil)
	checkNoReply(t, []byte{})
	// The room behind the bytes is no part of them.
	whole := []byte{5, 172, 2, 9}
	checkNoReply(t, whole[:0])
	checkNoReply(t, whole[:1])
	checkNoReply(t, whole[:2])
	checkReplyRead(t, whole[:3], impl.Reply{Code: 5, Value: 300 - top}, true)
	checkNoReply(t, whole)
}

// The reply that is nothing is one that can be read; beside a false it stands, too.
func TestP12TheZeroReply(t *testing.T) {
	b, ok := impl.ReplyPack(impl.Reply{})
	if !ok {
		t.Error("the zero reply is not packed")
	}
	checkReplyRead(t, b, impl.Reply{Code: 0, Value: 0}, true)
	for _, odd := range [][]byte{nil, {0}, {8}, {5, 128}, {5, 5, 0}, append(slices.Clone(b), 0), {9, 5}} {
		if r, ok := impl.ReplyRead(odd); ok || r.Code != 0 || r.Value != 0 {
			t.Errorf("ReplyRead(%v) = %v, %v", odd, r, ok)
		}
	}
}

func TestP12ReplyReadOfRepliesCutShort(t *testing.T) {
	for _, p := range somePackedReplies() {
		for n := range len(p.bytes) {
			checkNoReply(t, p.bytes[:n])
			checkNoReply(t, slices.Clone(p.bytes[:n]))
			checkReplyReadByWords(t, slices.Delete(slices.Clone(p.bytes), n, n+1))
		}
	}
}

func TestP12ReplyReadOfRepliesWithBytesBehind(t *testing.T) {
	for _, p := range somePackedReplies() {
		for _, behind := range [][]byte{{0}, {1}, {127}, {128}, {255}, {0, 0}, {128, 0}, {128, 1}, copiesOf(9, 128), copiesOf(12, 255), make([]byte, 300), p.bytes} {
			checkNoReply(t, slices.Concat(p.bytes, behind))
		}
		for _, q := range somePackedReplies() {
			checkNoReply(t, slices.Concat(p.bytes, q.bytes))
		}
	}
}

func TestP12ReplyReadOfNoCode(t *testing.T) {
	for _, code := range []int{9, 10, 127, 128, 136, 256, 264, 1 << 32, 1<<32 + 8, 1 << 62, math.MaxInt - 1, math.MaxInt} {
		for _, v := range valueForms() {
			checkNoReply(t, slices.Concat(wantForm(code), v.form))
		}
	}
	for one := range 256 {
		for _, v := range valueForms() {
			checkReplyReadByWords(t, slices.Concat([]byte{byte(one)}, v.form))
		}
	}
}

func TestP12ReplyReadOfValuesThatAreTooGreat(t *testing.T) {
	checkReplyRead(t, []byte{0, 128, 128, 180, 204, 212, 223, 198, 3}, impl.Reply{Value: 1000000000000000}, true)
	checkNoReply(t, []byte{0, 129, 128, 180, 204, 212, 223, 198, 3})
	for code := range 9 {
		for _, x := range []int{2*top + 1, 2*top + 2, 2*top + 128, 3 * top, 3*top + 1, 4 * top, 1<<56 - 1, 1 << 56, 1 << 62, math.MaxInt - top, math.MaxInt - 1, math.MaxInt} {
			checkNoReply(t, append([]byte{byte(code)}, wantForm(x)...))
		}
		for _, x := range []int{0, 1, top - 1, top, top + 1, 2*top - 1, 2 * top} {
			checkReplyRead(t, append([]byte{byte(code)}, wantForm(x)...), impl.Reply{Code: code, Value: x - top}, true)
		}
	}
}

func TestP12ReplyReadOfFormsThatAreNotTheShortest(t *testing.T) {
	for _, p := range somePackedReplies() {
		forms := [][]byte{p.bytes[:1], p.bytes[1:]}
		for place, form := range forms {
			for _, long := range longForms(form) {
				checkNoReply(t, withForm(forms, place, long))
			}
			for _, long := range formsTooLong() {
				checkNoReply(t, withForm(forms, place, long))
			}
		}
	}
}

func TestP12ReplyBytesTurned(t *testing.T) {
	counts := [2]int{}
	for _, p := range somePackedReplies() {
		b := slices.Clone(p.bytes)
		for place, old := range p.bytes {
			for by := 1; by < 256; by++ {
				b[place] = old + byte(by)
				checkReplyReadByWords(t, b)
				if r, ok := impl.ReplyRead(b); !ok {
					counts[0]++
				} else if counts[1]++; r == p.reply {
					t.Errorf("%v and %v are both %v", p.bytes, b, r)
				}
			}
			b[place] = old
		}
	}
	if min(counts[0], counts[1]) < 5000 {
		t.Error("too few of one kind", counts)
	}
}

// Of all bytes that there are of a few, and of drawn ones: what is read packs to just those bytes.
func TestP12ReplyReadOfManyBytes(t *testing.T) {
	for one := range 256 {
		for two := range 256 {
			checkReplyReadByWords(t, []byte{byte(one), byte(two)})
			checkReplyReadByWords(t, []byte{7, byte(one), byte(two)})
		}
	}
	roll := dice(44)
	for n := range 30000 {
		b := append([]byte{byte(roll(11))}, drawnBytes(n, roll(10))...)
		for i := 1; i+1 < len(b) && roll(4) > 0; i++ {
			b[i] |= 128
		}
		checkReplyReadByWords(t, b)
	}
}

// Commands and replies are not told apart by their bytes: who reads them knows what they are.
func TestP12BytesOfTheOtherKind(t *testing.T) {
	for _, p := range somePackedReplies() {
		checkCmdReadByWords(t, p.bytes)
	}
	for _, p := range somePackedCmds() {
		checkReplyReadByWords(t, p.bytes)
	}
	checkReplyRead(t, []byte{6, 5}, impl.Reply{Code: 6, Value: 5 - top}, true)
	checkCmdRead(t, []byte{6, 5}, cmdOf(impl.CmCancel, 5), true)
}

func TestP22RepliesAnswerAtAnyNumbers(t *testing.T) {
	odd := []int{math.MinInt, math.MinInt + 1, math.MinInt + top, -top - 1, -top, -128, -1, 0, 1, 8, 9, 127, 128, top, top + 1, 1 << 62, math.MaxInt - top, math.MaxInt}
	for _, code := range odd {
		for _, value := range odd {
			r := impl.Reply{Code: code, Value: value}
			want, ok := wantReplyPack(r)
			checkReplyPack(t, r, want, ok)
		}
	}
	for _, b := range oddCmdBytes() {
		checkReplyReadByWords(t, b)
	}
}

func TestP22RepliesWriteIntoNoBytes(t *testing.T) {
	given := oddCmdBytes()
	for _, p := range somePackedReplies() {
		given = append(given, p.bytes, p.bytes[:len(p.bytes)-1], slices.Concat(p.bytes, []byte{0}), slices.Concat(p.bytes, p.bytes))
		first, _ := impl.ReplyPack(p.reply)
		fill(first[:cap(first)], 203)
		checkReplyPack(t, p.reply, p.bytes, true)
	}
	for _, b := range given {
		checkNoByteTurned(t, "ReplyRead", b, func(b []byte) []int {
			r, _ := impl.ReplyRead(b)
			return []int{r.Code, r.Value}
		})
	}
}
