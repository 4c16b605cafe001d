package tests

import (
	"bytes"
	"math"
	"slices"
	"testing"

	"loop.example/g00110/impl"
)

func wantUnseal(b []byte, at int) ([]byte, int, int) {
	length, from, ok := wantGetNum(b, at)
	if !ok || length > 9000 {
		return nil, 0, impl.SealLength
	}
	if len(b) < from+length+4 {
		return nil, 0, impl.SealShort
	}
	behind := from + length + 4
	if !bytes.Equal(b[at:behind], wantSeal(b[from:from+length])) {
		return nil, 0, impl.SealCheck
	}
	return b[from : from+length], behind, impl.SealWell
}

func checkUnseal(t *testing.T, b []byte, at int, want []byte, wantNext int, wantCode int) {
	t.Helper()
	if got, next, code := impl.Unseal(b, at); !bytes.Equal(got, want) || next != wantNext || code != wantCode {
		t.Errorf("Unseal(%d bytes: %v, %d) = %v, %d, %d; want %v, %d, %d", len(b), b[:min(len(b), 20)], at, got, next, code, want, wantNext, wantCode)
	}
}

func checkNotUnsealed(t *testing.T, b []byte, at int, wantCode int) {
	t.Helper()
	checkUnseal(t, b, at, nil, 0, wantCode)
}

func checkUnsealByWords(t *testing.T, b []byte, at int) {
	t.Helper()
	want, next, code := wantUnseal(b, at)
	checkUnseal(t, b, at, want, next, code)
}

func sealOf(t *testing.T, b []byte) []byte {
	t.Helper()
	sealed, ok := impl.Seal(b)
	if !ok || len(sealed) != len(wantForm(len(b)))+len(b)+4 {
		t.Errorf("Seal of %d bytes has %d, %v", len(b), len(sealed), ok)
	}
	return sealed
}

func TestP11SealedIsReadAsItself(t *testing.T) {
	for _, b := range sealable() {
		sealed := sealOf(t, b)
		checkUnseal(t, sealed, 0, b, len(sealed), impl.SealWell)
		for _, ahead := range aroundBytes() {
			for _, behind := range aroundBytes() {
				checkUnseal(t, slices.Concat(ahead, sealed, behind), len(ahead), b, len(ahead)+len(sealed), impl.SealWell)
			}
		}
	}
	for n := range 400 {
		sealed := sealOf(t, drawnBytes(n, n))
		checkUnseal(t, sealed, 0, drawnBytes(n, n), len(sealed), impl.SealWell)
	}
}

func TestP11UnsealByHand(t *testing.T) {
	b := []byte{0, 0, 0, 0, 0, 2, 0, 1, 3, 0, 4, 0, 1, 255, 0, 1, 0, 1}
	checkUnseal(t, b, 0, nil, 5, impl.SealWell)
	checkUnseal(t, b, 5, []byte{0, 1}, 12, impl.SealWell)
	checkUnseal(t, b, 12, []byte{255}, 18, impl.SealWell)
	checkNotUnsealed(t, b, 1, impl.SealCheck)
	checkNotUnsealed(t, b, 6, impl.SealCheck)
	checkNotUnsealed(t, b, 13, impl.SealLength)
	checkNotUnsealed(t, b, 14, impl.SealShort)
	checkNotUnsealed(t, b, 17, impl.SealShort)
	checkNotUnsealed(t, b, 18, impl.SealLength)
	for at := -2; at <= len(b)+2; at++ {
		checkUnsealByWords(t, b, at)
	}
}

// Seals one behind the other are read one behind the other, each from the place behind the one ahead.
func TestP11SealsInARow(t *testing.T) {
	row := []byte{}
	for _, b := range sealable() {
		row = append(row, sealOf(t, b)...)
	}
	at := 0
	for _, b := range sealable() {
		next := at + len(wantSeal(b))
		checkUnseal(t, row, at, b, next, impl.SealWell)
		at = next
	}
	checkNotUnsealed(t, row, at, impl.SealLength)
	if at != len(row) {
		t.Error("the row ends at", at, len(row))
	}
	// A seal may hold seals.
	inner := sealOf(t, sealOf(t, []byte{5, 6}))
	held, next, code := impl.Unseal(inner, 0)
	if code != impl.SealWell || next != len(inner) {
		t.Error("a seal of a seal", held, next, code)
	}
	checkUnseal(t, held, 0, []byte{5, 6}, 7, impl.SealWell)
}

// unreadLengths are beginnings of which GetNum reads no length, whatever is behind them.
func unreadLengths() [][]byte {
	return [][]byte{{128, 0}, {130, 0}, {255, 0}, {129, 128, 0}, append(copiesOf(8, 128), 0), append(copiesOf(9, 128), 1), append(copiesOf(9, 255), 127), copiesOf(12, 200)}
}

func TestP11UnsealLength(t *testing.T) {
	for _, b := range [][]byte{nil, {}, {0, 0, 0, 0, 0}, {2, 0, 1, 3, 0, 4, 0}} {
		for _, at := range []int{-1, -5, len(b), len(b) + 1, len(b) + 4, 1 << 32, math.MinInt, math.MinInt + 4, math.MaxInt - 4, math.MaxInt} {
			checkNotUnsealed(t, b, at, impl.SealLength)
		}
	}
	for _, length := range unreadLengths() {
		checkNotUnsealed(t, length, 0, impl.SealLength)
		for _, behind := range [][]byte{{0}, {0, 0, 0}, {0, 0, 0, 0}, make([]byte, 12), {0, 1, 3, 0, 4, 0}, make([]byte, 20000)} {
			checkNotUnsealed(t, slices.Concat([]byte{9}, length, behind), 1, impl.SealLength)
		}
	}
	// A length that ends first, of each number of bytes.
	for n := 1; n <= 12; n++ {
		checkNotUnsealed(t, copiesOf(n, 128), 0, impl.SealLength)
		checkNotUnsealed(t, copiesOf(n, 255), 0, impl.SealLength)
	}
}

// A form that is not the shortest is no length, though all behind it is as it should be.
func TestP11UnsealOfALengthThatIsNotTheShortest(t *testing.T) {
	for _, b := range sealable() {
		length := wantForm(len(b))
		behind := wantSeal(b)[len(length):]
		long := slices.Clone(length)
		long[len(long)-1] += 128
		for more := range 9 {
			form := slices.Concat(long, copiesOf(more, 128), []byte{0})
			checkNotUnsealed(t, slices.Concat(form, behind), 0, impl.SealLength)
			checkNotUnsealed(t, slices.Concat([]byte{1}, form, behind), 1, impl.SealLength)
		}
	}
}

func TestP11UnsealOfALengthThatIsTooGreat(t *testing.T) {
	for _, length := range []int{9001, 9002, 16383, 16384, 65536, 1 << 32, 1<<32 + 1, 1 << 62, math.MaxInt - 8, math.MaxInt - 4, math.MaxInt - 1, math.MaxInt} {
		form := wantForm(length)
		// Too few bytes are left, or a sum is not right: the length counts first.
		for _, left := range []int{0, 1, 3, 4, 9000, 9004} {
			checkNotUnsealed(t, slices.Concat(form, make([]byte, left)), 0, impl.SealLength)
			checkNotUnsealed(t, slices.Concat([]byte{4, 5}, form, make([]byte, left)), 2, impl.SealLength)
		}
		if length <= 65536 {
			// All that is behind it would be right.
			checkNotUnsealed(t, wantSeal(drawnBytes(3, length)), 0, impl.SealLength)
			checkNotUnsealed(t, append(wantSeal(make([]byte, length)), 1, 2, 3), 0, impl.SealLength)
		}
	}
	checkUnseal(t, wantSeal(drawnBytes(3, 9000)), 0, drawnBytes(3, 9000), 9006, impl.SealWell)
}

// Bytes that end first are short, whatever the sum would be; just enough of them are asked for their sum.
func TestP11UnsealShort(t *testing.T) {
	for _, b := range sealable() {
		sealed := wantSeal(b)
		length := len(wantForm(len(b)))
		for n := length; n < len(sealed); n += 1 + len(sealed)/50 {
			checkNotUnsealed(t, sealed[:n], 0, impl.SealShort)
		}
		for less := 1; less <= 4; less++ {
			checkNotUnsealed(t, sealed[:len(sealed)-less], 0, impl.SealShort)
			checkNotUnsealed(t, slices.Concat([]byte{1, 2}, sealed[:len(sealed)-less]), 2, impl.SealShort)
		}
		for n := range length {
			checkNotUnsealed(t, sealed[:n], 0, impl.SealLength)
		}
		// With a byte turned that is left, or two, it stays short.
		turned := slices.Clone(sealed)
		turned[len(turned)-2]++
		turned[length]++
		checkNotUnsealed(t, turned[:len(turned)-1], 0, impl.SealShort)
		checkNotUnsealed(t, turned, 0, impl.SealCheck)
		checkUnseal(t, sealed, 0, b, len(sealed), impl.SealWell)
	}
	// The room behind the bytes is no part of them.
	checkNotUnsealed(t, wantSeal([]byte{1, 2, 3})[:7], 0, impl.SealShort)
	checkNotUnsealed(t, wantSeal(nil)[:0], 0, impl.SealLength)
}

func TestP11UnsealCheck(t *testing.T) {
	checkNotUnsealed(t, []byte{0, 1, 0, 0, 0}, 0, impl.SealCheck)
	checkNotUnsealed(t, []byte{0, 0, 0, 0, 1}, 0, impl.SealCheck)
	checkNotUnsealed(t, []byte{2, 1, 1, 3, 0, 4, 0}, 0, impl.SealCheck)
	checkNotUnsealed(t, []byte{2, 1, 0, 3, 0, 4, 0}, 0, impl.SealCheck)
	// The four from the highest on, and a sum that is not gone round.
	checkNotUnsealed(t, []byte{2, 0, 1, 0, 4, 0, 3}, 0, impl.SealCheck)
	checkNotUnsealed(t, slices.Concat([]byte{129, 2}, copiesOf(257, 254), []byte{255, 255, 0, 0}), 0, impl.SealCheck)
	checkNotUnsealed(t, slices.Concat([]byte{129, 2}, copiesOf(257, 254), []byte{0, 0, 255, 255}), 0, impl.SealCheck)
	// A length that says less or more than there is.
	checkNotUnsealed(t, []byte{1, 0, 1, 3, 0, 4, 0}, 0, impl.SealCheck)
	checkNotUnsealed(t, []byte{3, 0, 1, 3, 0, 4, 0, 0}, 0, impl.SealCheck)
}

// checkTurnedByte wants a seal refused with one byte turned, and turns it back.
func checkTurnedByte(t *testing.T, sealed []byte, place int, one byte) {
	t.Helper()
	old := sealed[place]
	sealed[place] = one
	checkNotUnsealed(t, sealed, 0, impl.SealCheck)
	sealed[place] = old
}

func TestP11OneByteTurned(t *testing.T) {
	for _, b := range sealable() {
		if len(b) > 260 {
			continue
		}
		sealed := sealOf(t, b)
		for place := len(wantForm(len(b))); place < len(sealed); place++ {
			for by := 1; by < 256; by++ {
				checkTurnedByte(t, sealed, place, sealed[place]+byte(by))
			}
		}
		checkUnseal(t, sealed, 0, b, len(sealed), impl.SealWell)
	}
	// Behind other bytes, and with others behind it.
	sealed := slices.Concat([]byte{1, 2}, sealOf(t, []byte("custody")), []byte{3})
	for place := 3; place < len(sealed)-1; place++ {
		for by := 1; by < 256; by++ {
			turned := slices.Clone(sealed)
			turned[place] += byte(by)
			checkNotUnsealed(t, turned, 2, impl.SealCheck)
		}
	}
}

func TestP11OneByteOfManyTurned(t *testing.T) {
	roll := dice(18)
	for _, b := range [][]byte{make([]byte, 9000), copiesOf(9000, 255), drawnBytes(19, 9000)} {
		sealed := sealOf(t, b)
		for place := 2; place < len(sealed); place++ {
			checkTurnedByte(t, sealed, place, sealed[place]+byte(1+roll(255)))
		}
		for _, place := range []int{2, 3, 258, 259, 4500, 9000, 9001, 9002, 9003, 9004, 9005} {
			for by := 1; by < 256; by++ {
				checkTurnedByte(t, sealed, place, sealed[place]+byte(by))
			}
		}
		checkUnseal(t, sealed, 0, b, len(sealed), impl.SealWell)
	}
}

// Any byte turned, also of the length: what is told is what the words say, and what is told well is sealed to just those bytes.
func TestP11UnsealByTheWords(t *testing.T) {
	roll := dice(20)
	codes := [4]int{}
	for n := range 3000 {
		ahead := drawnBytes(n, roll(4))
		b := slices.Concat(ahead, wantSeal(drawnBytes(n, roll(200))), drawnBytes(n+1, roll(6)))
		for range roll(3) {
			b[roll(len(b))] = byte(roll(256))
		}
		b = b[:len(b)-roll(min(8, len(b)))]
		for _, at := range []int{-1, 0, len(ahead), roll(len(b) + 1), len(b)} {
			checkUnsealByWords(t, b, at)
			held, next, code := impl.Unseal(b, at)
			codes[code]++
			if code == impl.SealWell {
				checkSeal(t, held, b[at:next], true)
			}
		}
	}
	if slices.Min(codes[:]) < 300 {
		t.Error("the bytes that are drawn are too much alike", codes)
	}
}

func TestP22UnsealAnswersAtAnyPlace(t *testing.T) {
	places := []int{math.MinInt, math.MinInt + 1, -1 << 32, -9005, -5, -4, -1, 0, 1, 4, 5, 8996, 9000, 9002, 9004, 9005, 1 << 32, 1 << 62, math.MaxInt - 5, math.MaxInt - 4, math.MaxInt}
	for _, b := range append(sealable(), unreadLengths()...) {
		for _, given := range [][]byte{b, wantSeal(b), append(wantForm(9000), b...), append(wantForm(math.MaxInt), b...)} {
			for _, at := range append(places, len(given)-5, len(given)-4, len(given)-1, len(given), len(given)+1) {
				checkUnsealByWords(t, given, at)
			}
		}
	}
}

func TestP22UnsealWritesIntoNoBytes(t *testing.T) {
	given := unreadLengths()
	for _, b := range append(sealable(), copiesOf(9001, 2)) {
		sealed := wantSeal(b)
		turned := slices.Clone(sealed)
		turned[len(turned)-1]++
		given = append(given, b, sealed, turned, sealed[:len(sealed)-1], slices.Concat([]byte{1}, sealed, []byte{2, 3}))
	}
	for _, b := range given {
		for _, at := range []int{-1, 0, 1, 2, len(b) - 4, len(b), len(b) + 1} {
			checkNoByteTurned(t, "Unseal", b, func(b []byte) []byte {
				held, _, _ := impl.Unseal(b, at)
				return held
			})
		}
	}
}
