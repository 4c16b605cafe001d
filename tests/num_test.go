package tests

import (
	"bytes"
	"math"
	"slices"
	"testing"

	"loop.example/g00110/impl"
)

// numForm is a number and its form, byte by byte.
type numForm struct {
	x    int
	form []byte
}

func handForms() []numForm {
	return []numForm{
		{0, []byte{0}}, {1, []byte{1}}, {2, []byte{2}}, {42, []byte{42}}, {126, []byte{126}}, {127, []byte{127}},
		{128, []byte{128, 1}}, {129, []byte{129, 1}}, {255, []byte{255, 1}}, {256, []byte{128, 2}}, {300, []byte{172, 2}}, {384, []byte{128, 3}},
		{1000, []byte{232, 7}}, {9000, []byte{168, 70}}, {9001, []byte{169, 70}}, {16256, []byte{128, 127}}, {16383, []byte{255, 127}},
		{16384, []byte{128, 128, 1}}, {16385, []byte{129, 128, 1}}, {16511, []byte{255, 128, 1}}, {16512, []byte{128, 129, 1}}, {65535, []byte{255, 255, 3}}, {65536, []byte{128, 128, 4}},
		{2097151, []byte{255, 255, 127}}, {2097152, []byte{128, 128, 128, 1}},
		{268435455, []byte{255, 255, 255, 127}}, {268435456, []byte{128, 128, 128, 128, 1}},
		{4294967295, []byte{255, 255, 255, 255, 15}}, {4294967296, []byte{128, 128, 128, 128, 16}},
		{34359738367, []byte{255, 255, 255, 255, 127}}, {34359738368, []byte{128, 128, 128, 128, 128, 1}},
		{4398046511103, []byte{255, 255, 255, 255, 255, 127}}, {4398046511104, []byte{128, 128, 128, 128, 128, 128, 1}},
		{562949953421311, []byte{255, 255, 255, 255, 255, 255, 127}}, {562949953421312, []byte{128, 128, 128, 128, 128, 128, 128, 1}},
		{1000000000000000, []byte{128, 128, 154, 166, 234, 175, 227, 1}}, {2000000000000000, []byte{128, 128, 180, 204, 212, 223, 198, 3}},
		{72057594037927935, []byte{255, 255, 255, 255, 255, 255, 255, 127}}, {72057594037927936, []byte{128, 128, 128, 128, 128, 128, 128, 128, 1}},
		{1 << 62, []byte{128, 128, 128, 128, 128, 128, 128, 128, 64}}, {math.MaxInt - 1, []byte{254, 255, 255, 255, 255, 255, 255, 255, 127}},
		{math.MaxInt, []byte{255, 255, 255, 255, 255, 255, 255, 255, 127}},
	}
}

// wantForm is the form by the words: what is left over by 128, again and again.
func wantForm(x int) []byte {
	if x < 128 {
		return []byte{byte(x)}
	}
	return append([]byte{byte(128 + x%128)}, wantForm(x/128)...)
}

func wantGetNum(b []byte, at int) (int, int, bool) {
	if at < 0 || at >= len(b) {
		return 0, 0, false
	}
	last := slices.IndexFunc(b[at:], func(one byte) bool { return one < 128 })
	if last < 0 || last > 8 || last > 0 && b[at+last] == 0 {
		return 0, 0, false
	}
	x := 0
	for i := last; i >= 0; i-- {
		x = 128*x + int(b[at+i])%128
	}
	return x, at + last + 1, true
}

func checkPutNum(t *testing.T, x int, want []byte) {
	t.Helper()
	if got := impl.PutNum(x); !bytes.Equal(got, want) {
		t.Errorf("PutNum(%d) = %v; want %v", x, got, want)
	}
}

func checkGetNum(t *testing.T, b []byte, at int, want int, wantNext int, wantOk bool) {
	t.Helper()
	if x, next, ok := impl.GetNum(b, at); x != want || next != wantNext || ok != wantOk {
		t.Errorf("GetNum(%v, %d) = %d, %d, %v; want %d, %d, %v", b, at, x, next, ok, want, wantNext, wantOk)
	}
}

func checkNoNum(t *testing.T, b []byte, at int) {
	t.Helper()
	checkGetNum(t, b, at, 0, 0, false)
}

func checkGetNumByWords(t *testing.T, b []byte, at int) {
	t.Helper()
	x, next, ok := wantGetNum(b, at)
	checkGetNum(t, b, at, x, next, ok)
}

// aroundBytes are bytes that may stand ahead of a form or behind it: none, whole forms, and such that no form ends in.
func aroundBytes() [][]byte {
	return [][]byte{{}, {0}, {127}, {128}, {255}, {9, 172, 2}, {128, 0}, {0, 0, 0}, slices.Repeat([]byte{255}, 12), slices.Repeat([]byte{128}, 9)}
}

// checkReadAgain wants the number of its form, alone, behind other bytes and with others behind it.
func checkReadAgain(t *testing.T, x int, form []byte) {
	t.Helper()
	checkGetNum(t, form, 0, x, len(form), true)
	for _, ahead := range aroundBytes() {
		for _, behind := range aroundBytes() {
			checkGetNum(t, slices.Concat(ahead, form, behind), len(ahead), x, len(ahead)+len(form), true)
		}
	}
}

// spreadNums are numbers not below 0 of all sizes, the same in each run.
func spreadNums(seed int, n int) []int {
	roll, list := dice(seed), make([]int, n)
	for i := range list {
		list[i] = (roll(1<<30)<<33 | roll(1<<30)<<15 | roll(1<<15)) >> roll(63)
	}
	return list
}

func TestP11FormsByHand(t *testing.T) {
	for _, c := range handForms() {
		checkPutNum(t, c.x, c.form)
		checkReadAgain(t, c.x, c.form)
		checkPutNum(t, c.x, wantForm(c.x))
	}
}

func TestP11FormsOfPowers(t *testing.T) {
	power := 1
	for k := range 9 {
		form := append(bytes.Repeat([]byte{128}, k), 1)
		checkPutNum(t, power, form)
		checkReadAgain(t, power, form)
		// One less has a byte less, all of them as great as can be.
		if k > 0 {
			form = append(bytes.Repeat([]byte{255}, k-1), 127)
			checkPutNum(t, power-1, form)
			checkReadAgain(t, power-1, form)
		}
		power *= 128
	}
}

func TestP11FormsOfManyNumbers(t *testing.T) {
	for x := range 40000 {
		form := wantForm(x)
		checkPutNum(t, x, form)
		checkGetNum(t, form, 0, x, len(form), true)
	}
	for _, x := range spreadNums(11, 5000) {
		form := wantForm(x)
		checkPutNum(t, x, form)
		checkGetNum(t, slices.Concat([]byte{200, 1}, form, []byte{255}), 2, x, 2+len(form), true)
	}
	for shift := range 63 {
		for _, x := range []int{1<<shift - 1, 1 << shift, 1<<shift + 1} {
			checkPutNum(t, x, wantForm(x))
			checkReadAgain(t, x, wantForm(x))
		}
	}
}

func TestP11NoFormOfWhatIsBelowNought(t *testing.T) {
	for _, x := range []int{-1, -2, -127, -128, -129, -top, -1 << 32, -1 << 62, math.MinInt + 1, math.MinInt} {
		checkPutNum(t, x, nil)
	}
}

func TestP11NumAtNoPlace(t *testing.T) {
	for _, b := range [][]byte{nil, {}, {0}, {5}, {172, 2}, {1, 2, 3}, {128}, bytes.Repeat([]byte{7}, 300)} {
		for _, at := range []int{-1, -2, -len(b), -len(b) - 1, len(b), len(b) + 1, len(b) + 2, 1 << 32, -1 << 32, math.MinInt, math.MinInt + 1, math.MaxInt - 1, math.MaxInt} {
			if at != 0 || len(b) == 0 {
				checkNoNum(t, b, at)
			}
		}
	}
	// The room behind the bytes is no part of them.
	whole := []byte{5, 172, 2, 9}
	checkNoNum(t, whole[:1], 1)
	checkNoNum(t, whole[:2], 1)
	checkNoNum(t, whole[:0], 0)
	checkGetNum(t, whole[:3], 1, 300, 3, true)
}

func TestP11NumWhoseBytesEndFirst(t *testing.T) {
	for n := 1; n <= 12; n++ {
		for _, one := range []byte{128, 129, 200, 255} {
			cut := bytes.Repeat([]byte{one}, n)
			checkNoNum(t, cut, 0)
			checkNoNum(t, append([]byte{0, 3}, cut...), 2)
		}
	}
	for _, c := range handForms() {
		for n := range len(c.form) {
			checkNoNum(t, c.form[:n], 0)
			checkNoNum(t, slices.Concat([]byte{7}, c.form[:n]), 1)
		}
	}
}

func TestP11NumOfNineBytesAndOfMore(t *testing.T) {
	for _, one := range []byte{128, 129, 255} {
		for last := 1; last < 128; last++ {
			nine := append(bytes.Repeat([]byte{one}, 8), byte(last))
			x, _, _ := wantGetNum(nine, 0)
			if x < 1<<56 {
				t.Error("a form of nine bytes", nine, x)
			}
			checkReadAgain(t, x, nine)
			checkPutNum(t, x, nine)
			for more := 9; more <= 20; more++ {
				checkNoNum(t, append(bytes.Repeat([]byte{one}, more), byte(last)), 0)
			}
		}
	}
	checkNoNum(t, []byte{255, 255, 255, 255, 255, 255, 255, 255, 255, 1}, 0)
	checkNoNum(t, []byte{128, 128, 128, 128, 128, 128, 128, 128, 128, 1}, 0)
	// Behind the first byte of ten the other nine are a form of their own.
	checkGetNum(t, []byte{128, 128, 128, 128, 128, 128, 128, 128, 128, 1}, 1, 1<<56, 10, true)
}

func TestP11NumThatIsNotTheShortest(t *testing.T) {
	checkGetNum(t, []byte{0}, 0, 0, 1, true)
	checkGetNum(t, []byte{0, 0}, 0, 0, 1, true)
	checkGetNum(t, []byte{0, 0}, 1, 0, 2, true)
	checkGetNum(t, []byte{128, 0}, 1, 0, 2, true)
	for n := 1; n <= 12; n++ {
		for _, one := range []byte{128, 129, 200, 255} {
			long := append(bytes.Repeat([]byte{one}, n), 0)
			checkNoNum(t, long, 0)
			checkNoNum(t, slices.Concat([]byte{1}, long, []byte{1}), 1)
			// A nought ahead of the last byte is not its end: the form is as short as can be.
			checkGetNumByWords(t, slices.Concat(bytes.Repeat([]byte{one}, min(n, 7)), []byte{128, 1}), 0)
		}
	}
	for _, c := range handForms() {
		long := slices.Clone(c.form)
		long[len(long)-1] += 128
		checkNoNum(t, append(long, 0), 0)
		checkNoNum(t, slices.Concat(long, []byte{128, 0}), 0)
		checkNoNum(t, slices.Concat(long, []byte{0, 1}), 0)
	}
}

// All that is read, of all bytes that there are of a few, packs to just those bytes.
func TestP11NumOfAllShortBytes(t *testing.T) {
	read := func(b []byte) {
		checkGetNumByWords(t, b, 0)
		if x, next, ok := impl.GetNum(b, 0); ok {
			checkPutNum(t, x, b[:next])
		}
	}
	for first := range 256 {
		read([]byte{byte(first)})
		for second := range 256 {
			read([]byte{byte(first), byte(second)})
			for _, third := range []byte{0, 1, 127, 128, 255} {
				read([]byte{byte(first), byte(second), third})
			}
		}
	}
}

// Bytes as they come, most of them with 128 added, so that forms of all lengths are among them.
func TestP11NumOfDrawnBytes(t *testing.T) {
	roll := dice(12)
	seen := [10]int{}
	refused := 0
	for range 3000 {
		b := make([]byte, roll(40))
		for i := range b {
			b[i] = []byte{0, 1, 127, 128, 255, byte(roll(256)), 130, 140, 150, 160, 170, 180, 190}[roll(13)]
		}
		for at := -1; at <= len(b)+1; at++ {
			checkGetNumByWords(t, b, at)
			x, next, ok := impl.GetNum(b, at)
			if !ok {
				refused++
				continue
			}
			seen[next-at]++
			checkPutNum(t, x, b[at:next])
		}
	}
	if refused < 100 || slices.Min(seen[1:]) < 100 {
		t.Error("the bytes that are drawn are too much alike", refused, seen)
	}
}
