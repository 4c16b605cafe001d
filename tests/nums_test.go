package tests

import (
	"bytes"
	"math"
	"slices"
	"testing"

	"loop.example/g00110/impl"
)

func wantForms(list []int) []byte {
	forms := []byte{}
	for _, x := range list {
		if x < 0 {
			return nil
		}
		forms = append(forms, wantForm(x)...)
	}
	return forms
}

func wantGetNums(b []byte, at int, many int) ([]int, int, bool) {
	if many < 0 || many > 2000 || at < 0 || at > len(b) {
		return nil, 0, false
	}
	list := []int{}
	for range many {
		x, next, ok := wantGetNum(b, at)
		if !ok {
			return nil, 0, false
		}
		list, at = append(list, x), next
	}
	return list, at, true
}

func checkPutNums(t *testing.T, list []int, want []byte) {
	t.Helper()
	if got := impl.PutNums(list); !bytes.Equal(got, want) {
		t.Errorf("PutNums(%v) = %v; want %v", list, got, want)
	}
}

func checkGetNums(t *testing.T, b []byte, at int, many int, want []int, wantNext int, wantOk bool) {
	t.Helper()
	if list, next, ok := impl.GetNums(b, at, many); !slices.Equal(list, want) || next != wantNext || ok != wantOk {
		t.Errorf("GetNums(%v, %d, %d) = %v, %d, %v; want %v, %d, %v", b, at, many, list, next, ok, want, wantNext, wantOk)
	}
}

func checkNoNums(t *testing.T, b []byte, at int, many int) {
	t.Helper()
	checkGetNums(t, b, at, many, nil, 0, false)
}

func checkGetNumsByWords(t *testing.T, b []byte, at int, many int) {
	t.Helper()
	list, next, ok := wantGetNums(b, at, many)
	checkGetNums(t, b, at, many, list, next, ok)
}

// checkListAgain wants the numbers of their forms, and each part of them that is a beginning.
func checkListAgain(t *testing.T, list []int) {
	t.Helper()
	forms := impl.PutNums(list)
	for _, ahead := range aroundBytes() {
		for _, behind := range aroundBytes() {
			checkGetNums(t, slices.Concat(ahead, forms, behind), len(ahead), len(list), list, len(ahead)+len(forms), true)
		}
	}
	for n := range len(list) {
		checkGetNums(t, forms, 0, n, list[:n], len(wantForms(list[:n])), true)
	}
	if len(list) < 2000 {
		checkNoNums(t, forms, 0, len(list)+1)
	}
}

func numLists() [][]int {
	list := [][]int{
		nil, {}, {0}, {1}, {127}, {128}, {300}, {math.MaxInt}, {0, 0}, {1, 128}, {128, 1}, {300, 5}, {0, 127, 128, 16383, 16384}, {math.MaxInt, 0, math.MaxInt},
		{top, 2 * top, top - 1}, repeated(20, 0), repeated(20, 128), spreadNums(13, 30),
	}
	all := []int{}
	for _, c := range handForms() {
		all = append(all, c.x)
	}
	return append(list, all)
}

func TestP11ListsByHand(t *testing.T) {
	checkPutNums(t, nil, nil)
	checkPutNums(t, []int{}, nil)
	checkPutNums(t, []int{0}, []byte{0})
	checkPutNums(t, []int{300}, []byte{172, 2})
	checkPutNums(t, []int{1, 128}, []byte{1, 128, 1})
	checkPutNums(t, []int{0, 0, 0}, []byte{0, 0, 0})
	checkPutNums(t, []int{127, 255, 0, 16384, 9}, []byte{127, 255, 1, 0, 128, 128, 1, 9})
	checkPutNums(t, []int{math.MaxInt, 1}, []byte{255, 255, 255, 255, 255, 255, 255, 255, 127, 1})
	checkGetNums(t, []byte{127, 255, 1, 0, 128, 128, 1, 9}, 0, 5, []int{127, 255, 0, 16384, 9}, 8, true)
	checkGetNums(t, []byte{127, 255, 1, 0, 128, 128, 1, 9}, 1, 2, []int{255, 0}, 4, true)
	checkGetNums(t, []byte{127, 255, 1, 0, 128, 128, 1, 9}, 2, 3, []int{1, 0, 16384}, 7, true)
	checkGetNums(t, []byte{127, 255, 1, 0, 128, 128, 1, 9}, 5, 1, []int{128}, 7, true)
	checkGetNums(t, []byte{9, 172, 2, 5}, 1, 2, []int{300, 5}, 4, true)
}

func TestP11ListsAreReadAgain(t *testing.T) {
	for _, list := range numLists() {
		checkPutNums(t, list, wantForms(list))
		checkListAgain(t, list)
	}
	// More numbers than are read at once may be put.
	long := spreadNums(14, 5000)
	checkPutNums(t, long, wantForms(long))
}

func TestP11NoFormsWithOneBelowNought(t *testing.T) {
	for _, list := range numLists() {
		for place := range len(list) + 1 {
			for _, x := range []int{-1, -128, -top, math.MinInt} {
				checkPutNums(t, slices.Insert(slices.Clone(list), place, x), nil)
			}
		}
	}
	checkPutNums(t, []int{-1, -2, -3}, nil)
}

func TestP11NoNumbersAtAll(t *testing.T) {
	for _, b := range [][]byte{nil, {}, {0}, {128}, {255, 255}, {1, 2, 3}, bytes.Repeat([]byte{128}, 30)} {
		for at := range len(b) + 1 {
			checkGetNums(t, b, at, 0, nil, at, true)
		}
		for _, at := range []int{-1, -2, len(b) + 1, len(b) + 2, math.MinInt, math.MaxInt} {
			for _, many := range []int{0, 1, 2} {
				checkNoNums(t, b, at, many)
			}
		}
		for _, many := range []int{1, 2, 2000} {
			checkNoNums(t, b, len(b), many)
		}
	}
	// Nor does the room behind the bytes count as a place.
	checkNoNums(t, []byte{1, 2, 3}[:1], 2, 0)
	checkNoNums(t, []byte{1, 2, 3}[:1], 0, 2)
}

func TestP11AsManyNumbersAsThereCanBe(t *testing.T) {
	list := spreadNums(15, 2001)
	forms := wantForms(list)
	for _, n := range []int{1, 2, 1999, 2000} {
		checkGetNums(t, forms, 0, n, list[:n], len(wantForms(list[:n])), true)
	}
	checkGetNums(t, forms, len(wantForm(list[0])), 2000, list[1:], len(forms), true)
	zeros := make([]byte, 3000)
	checkGetNums(t, zeros, 5, 2000, make([]int, 2000), 2005, true)
	checkGetNums(t, zeros, 1000, 2000, make([]int, 2000), 3000, true)
	checkNoNums(t, zeros, 1001, 2000)
	for _, many := range []int{-1, -2, -2000, 2001, 2002, 3000, 1 << 32, 1<<32 + 1, -1 << 32, math.MinInt, math.MinInt + 1, math.MaxInt} {
		for _, at := range []int{-1, 0, 1, len(zeros), len(zeros) + 1} {
			checkNoNums(t, zeros, at, many)
			checkNoNums(t, forms, at, many)
			checkNoNums(t, nil, at, many)
		}
	}
}

func TestP11FewerNumbersThanWereAskedFor(t *testing.T) {
	for _, list := range numLists() {
		forms := wantForms(list)
		for _, many := range []int{len(list) + 1, len(list) + 2, 2000} {
			checkNoNums(t, forms, 0, many)
			checkNoNums(t, append([]byte{200, 1}, forms...), 2, many)
		}
		// The last one lacks its end, or all of it.
		if len(forms) > 0 {
			checkNoNums(t, forms[:len(forms)-1], 0, len(list))
		}
	}
}

func TestP11OneFormOfManyRefused(t *testing.T) {
	wrong := [][]byte{{128, 0}, {255, 128, 0}, {128, 128, 128, 128, 128, 128, 128, 128, 0}, append(bytes.Repeat([]byte{255}, 9), 1), append(bytes.Repeat([]byte{128}, 9), 0), bytes.Repeat([]byte{128}, 12)}
	for _, list := range numLists() {
		for place := range len(list) + 1 {
			for _, form := range wrong {
				b := slices.Concat(wantForms(list[:place]), form, wantForms(list[place:]))
				checkNoNums(t, b, 0, len(list)+1)
				checkNoNums(t, b, 0, place+1)
				checkGetNums(t, b, 0, place, list[:place], len(wantForms(list[:place])), true)
			}
		}
	}
}

func TestP11DrawnListsAreReadAgain(t *testing.T) {
	roll := dice(16)
	for seed := range 400 {
		list := spreadNums(100+seed, roll(12))
		forms := wantForms(list)
		checkPutNums(t, list, forms)
		ahead := make([]byte, roll(5))
		checkGetNums(t, slices.Concat(ahead, forms), len(ahead), len(list), list, len(ahead)+len(forms), true)
		// One byte turned: what is read then, if anything, is what the words say.
		if len(forms) > 0 {
			forms[roll(len(forms))] = byte(roll(256))
		}
		for many := -1; many <= len(list)+1; many++ {
			checkGetNumsByWords(t, forms, roll(len(forms)+2)-1, many)
			checkGetNumsByWords(t, forms, 0, many)
		}
	}
}

func TestP22NumbersAtAnyPlace(t *testing.T) {
	odd := []int{math.MinInt, math.MinInt + 1, -1 << 32, -2001, -1, 0, 1, 2, 3, 4, 8, 9, 10, 255, 1999, 2000, 2001, 9000, 1 << 32, 1 << 62, math.MaxInt - 1, math.MaxInt}
	for _, b := range [][]byte{nil, {}, {0}, {128}, {172, 2, 5}, bytes.Repeat([]byte{1}, 10), bytes.Repeat([]byte{255}, 10), make([]byte, 2002)} {
		for _, at := range odd {
			checkGetNumByWords(t, b, at)
			for _, many := range odd {
				checkGetNumsByWords(t, b, at, many)
			}
		}
	}
}

// checkNoByteTurned calls with bytes that have room behind them, and wants them as they were, and their memory apart from what is told.
func checkNoByteTurned[R comparable](t *testing.T, name string, given []byte, call func([]byte) []R) {
	t.Helper()
	var own R
	whole, list, room := roomy(given, 201)
	next, other := call(list), call(list)
	if !bytes.Equal(list, given) || !allAre(room, 201) {
		t.Errorf("%s: %v became %v, room %v", name, given, list, room)
	}
	kept := slices.Clone(next)
	fill(whole, 77)
	fill(other[:cap(other)], own)
	if !slices.Equal(next, kept) {
		t.Errorf("%s of %v: the answer shares memory", name, given)
	}
	fill(next[:cap(next)], own)
	if !allAre(whole, 77) {
		t.Errorf("%s of %v: the bytes share memory with the answer", name, given)
	}
	if again := call(slices.Clone(given)); !slices.Equal(again, kept) {
		t.Errorf("%s of %v: told %v, then %v", name, given, kept, again)
	}
}

func TestP22NumbersWriteIntoNoBytes(t *testing.T) {
	given := [][]byte{nil, {}, {0}, {5}, {128}, {128, 0}, {172, 2, 5, 9}, bytes.Repeat([]byte{255}, 20), bytes.Repeat([]byte{200, 3}, 9), make([]byte, 2001)}
	for _, list := range numLists() {
		given = append(given, wantForms(list))
	}
	for _, b := range given {
		for _, at := range []int{-1, 0, 1, 2, len(b) - 1, len(b), len(b) + 1} {
			checkNoByteTurned(t, "GetNum", b, func(b []byte) []int {
				x, next, _ := impl.GetNum(b, at)
				return []int{x, next}
			})
			for _, many := range []int{-1, 0, 1, 2, 3, 19, 2000, 2001} {
				checkNoByteTurned(t, "GetNums", b, func(b []byte) []int {
					list, _, _ := impl.GetNums(b, at, many)
					return list
				})
			}
		}
	}
}

func TestP22FormsWriteIntoNoList(t *testing.T) {
	given := numLists()
	for _, list := range numLists() {
		given = append(given, append(slices.Clone(list), -1), append([]int{math.MinInt}, list...))
	}
	for _, list := range given {
		whole, part, room := roomy(list, spareMark)
		forms, other := impl.PutNums(part), impl.PutNums(part)
		if !slices.Equal(part, list) || !allAre(room, spareMark) {
			t.Errorf("PutNums: %v became %v, room %v", list, part, room)
		}
		fill(whole, 7)
		fill(other[:cap(other)], 201)
		if !bytes.Equal(forms, wantForms(list)) {
			t.Errorf("PutNums of %v: the answer shares memory", list)
		}
		fill(forms[:cap(forms)], 202)
		if !allAre(whole, 7) {
			t.Errorf("PutNums of %v: the list shares memory with the answer", list)
		}
		checkPutNums(t, list, wantForms(list))
	}
	for _, c := range handForms() {
		first := impl.PutNum(c.x)
		fill(first[:cap(first)], 203)
		checkPutNum(t, c.x, c.form)
	}
}
