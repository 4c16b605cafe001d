package tests

import (
	"bytes"
	"slices"
	"testing"

	"loop.example/g00110/impl"
)

// wantCheck is Check by its sums: x is all bytes and one of each, y has each as often as it and those behind it are.
func wantCheck(b []byte) int {
	x, y := 0, 0
	for i, one := range b {
		x += int(one) + 1
		y += (len(b) - i) * (int(one) + 1)
	}
	return y%65535*65536 + x%65535
}

func wantSeal(b []byte) []byte {
	sum := wantCheck(b)
	return slices.Concat(wantForm(len(b)), b, []byte{byte(sum % 256), byte(sum / 256 % 256), byte(sum / 65536 % 256), byte(sum / 16777216)})
}

func checkCheck(t *testing.T, b []byte, want int) {
	t.Helper()
	if got := impl.Check(b); got != want {
		t.Errorf("Check(%d bytes: %v) = %d; want %d", len(b), b[:min(len(b), 20)], got, want)
	}
}

func checkSeal(t *testing.T, b []byte, want []byte, wantOk bool) {
	t.Helper()
	if got, ok := impl.Seal(b); !bytes.Equal(got, want) || ok != wantOk {
		t.Errorf("Seal(%d bytes: %v) = %v, %v; want %v, %v", len(b), b[:min(len(b), 20)], got, ok, want, wantOk)
	}
}

func copiesOf(n int, one byte) []byte { return bytes.Repeat([]byte{one}, n) }

// drawnBytes are the same in each run.
func drawnBytes(seed int, n int) []byte {
	roll, b := dice(seed), make([]byte, n)
	for i := range b {
		b[i] = byte(roll(256))
	}
	return b
}

// sealable are bytes that may be sealed, of all lengths at which a seal may turn wrong.
func sealable() [][]byte {
	list := [][]byte{nil, {}, {0}, {1}, {255}, {0, 0}, {0, 1}, {1, 0}, {1, 2, 3}, {255, 255, 255}, {128}, {128, 0}, {4, 0, 0, 0, 0}, []byte("custody")}
	for _, n := range []int{4, 5, 126, 127, 128, 129, 255, 256, 257, 1000, 8999, 9000} {
		list = append(list, make([]byte, n), copiesOf(n, 255), copiesOf(n, 128), drawnBytes(n, n))
	}
	return list
}

func TestP11Limits(t *testing.T) {
	if impl.MaxSealed != 9000 {
		t.Error("MaxSealed", impl.MaxSealed)
	}
	if codes := []int{impl.SealWell, impl.SealLength, impl.SealShort, impl.SealCheck}; !slices.Equal(codes, []int{0, 1, 2, 3}) {
		t.Error("codes", codes)
	}
}

func TestP11CheckByHand(t *testing.T) {
	checkCheck(t, nil, 0)
	checkCheck(t, []byte{}, 0)
	checkCheck(t, []byte{0}, 65536*1+1)
	checkCheck(t, []byte{7}, 65536*8+8)
	checkCheck(t, []byte{255}, 65536*256+256)
	checkCheck(t, []byte{0, 0}, 65536*3+2)
	checkCheck(t, []byte{0, 1}, 65536*4+3)
	checkCheck(t, []byte{1, 0}, 65536*5+3)
	checkCheck(t, []byte{1, 2, 3}, 65536*16+9)
	checkCheck(t, []byte{3, 2, 1}, 65536*20+9)
	checkCheck(t, []byte{255, 255}, 65536*768+512)
	checkCheck(t, []byte{255, 0, 255}, 65536*(256+257+513)+513)
	checkCheck(t, []byte("abc"), 65536*(98+197+297)+297)
}

// So many bytes that y, and then x, have gone round 65535.
func TestP11CheckGoesRound(t *testing.T) {
	checkCheck(t, copiesOf(22, 255), 65536*64768+5632)
	checkCheck(t, copiesOf(23, 255), 65536*5121+5888)
	checkCheck(t, copiesOf(255, 255), 65536*32895+65280)
	checkCheck(t, copiesOf(256, 255), 65536*32896+1)
	checkCheck(t, copiesOf(257, 255), 65536*(32896+257)+257)
	// x is 65535 just at the last byte, and y a multiple of it: both are 0 then.
	checkCheck(t, copiesOf(257, 254), 0)
	checkCheck(t, copiesOf(258, 254), 65536*255+255)
	checkCheck(t, make([]byte, 361), 65536*65341+361)
	checkCheck(t, make([]byte, 362), 65536*168+362)
	// One byte less than goes round leaves x as great as can be.
	checkCheck(t, make([]byte, 65534), 65534)
	checkCheck(t, make([]byte, 65535), 0)
	checkCheck(t, make([]byte, 65536), 65537)
	checkCheck(t, append(make([]byte, 65534), 255), 65536*255+255)
	checkCheck(t, append(make([]byte, 65534), 255, 0), 65536*(255+256)+256)
	// y as great as can be, then just round, then one more.
	checkCheck(t, append(make([]byte, 360), 193), 65536*65534+554)
	checkCheck(t, append(make([]byte, 360), 194), 555)
	checkCheck(t, append(make([]byte, 360), 195), 65536*1+556)
	checkCheck(t, make([]byte, 131070), 0)
	checkCheck(t, copiesOf(9000, 0), 65536*3870+9000)
	checkCheck(t, copiesOf(9000, 255), 65536*7695+10275)
}

func TestP11CheckByItsSums(t *testing.T) {
	for _, b := range sealable() {
		checkCheck(t, b, wantCheck(b))
	}
	for n := range 700 {
		for _, b := range [][]byte{make([]byte, n), copiesOf(n, 255), copiesOf(n, 254), drawnBytes(n, n)} {
			checkCheck(t, b, wantCheck(b))
		}
	}
	checkCheck(t, drawnBytes(5, 100000), wantCheck(drawnBytes(5, 100000)))
}

// Two bytes that change places turn y by their distance times what they differ by: it stays where that is whole rounds of 65535.
func TestP11CheckOfAnotherOrder(t *testing.T) {
	swapped := func(b []byte, i int, j int) []byte {
		b = slices.Clone(b)
		b[i], b[j] = b[j], b[i]
		return b
	}
	whole := drawnBytes(17, 256)
	for i := range whole {
		for j := range i {
			if turned := swapped(whole, i, j); (impl.Check(turned) == impl.Check(whole)) != (whole[i] == whole[j]) {
				t.Errorf("bytes %d and %d of %v: %d, then %d", i, j, whole, impl.Check(whole), impl.Check(turned))
			}
		}
	}
	for distance := 1; distance <= 1400; distance++ {
		for _, apart := range []int{1, 51, 85, 254, 255} {
			b := make([]byte, distance+1)
			b[0] = byte(apart)
			stays := distance*apart%65535 == 0
			if turned := swapped(b, 0, distance); (impl.Check(turned) == impl.Check(b)) != stays {
				t.Errorf("two bytes %d apart in place, %d in size: %d, then %d", distance, apart, impl.Check(b), impl.Check(turned))
			}
		}
	}
	// Told by hand: the nearest two places at which two bytes may change unseen.
	checkCheck(t, append([]byte{255}, make([]byte, 257)...), 65536*33666+513)
	checkCheck(t, append(make([]byte, 257), 255), 65536*33666+513)
	back := slices.Clone(whole)
	slices.Reverse(back)
	if impl.Check(back) == impl.Check(whole) {
		t.Error("bytes from behind", impl.Check(back))
	}
}

func TestP11SealsByHand(t *testing.T) {
	checkSeal(t, nil, []byte{0, 0, 0, 0, 0}, true)
	checkSeal(t, []byte{}, []byte{0, 0, 0, 0, 0}, true)
	checkSeal(t, []byte{0}, []byte{1, 0, 1, 0, 1, 0}, true)
	checkSeal(t, []byte{7}, []byte{1, 7, 8, 0, 8, 0}, true)
	checkSeal(t, []byte{255}, []byte{1, 255, 0, 1, 0, 1}, true)
	checkSeal(t, []byte{0, 1}, []byte{2, 0, 1, 3, 0, 4, 0}, true)
	checkSeal(t, []byte{255, 255}, []byte{2, 255, 255, 0, 2, 0, 3}, true)
	checkSeal(t, make([]byte, 127), slices.Concat([]byte{127}, make([]byte, 127), []byte{127, 0, 192, 31}), true)
	checkSeal(t, make([]byte, 128), slices.Concat([]byte{128, 1}, make([]byte, 128), []byte{128, 0, 64, 32}), true)
	checkSeal(t, copiesOf(256, 255), slices.Concat([]byte{128, 2}, copiesOf(256, 255), []byte{1, 0, 128, 128}), true)
	checkSeal(t, copiesOf(257, 254), slices.Concat([]byte{129, 2}, copiesOf(257, 254), []byte{0, 0, 0, 0}), true)
	checkSeal(t, make([]byte, 9000), slices.Concat([]byte{168, 70}, make([]byte, 9000), []byte{40, 35, 30, 15}), true)
	checkSeal(t, copiesOf(9000, 255), slices.Concat([]byte{168, 70}, copiesOf(9000, 255), []byte{35, 40, 15, 30}), true)
}

func TestP11SealsByTheWords(t *testing.T) {
	for _, b := range sealable() {
		checkSeal(t, b, wantSeal(b), true)
	}
	for n := range 400 {
		checkSeal(t, drawnBytes(n, n), wantSeal(drawnBytes(n, n)), true)
	}
}

func TestP11NoSealOfTooManyBytes(t *testing.T) {
	for _, n := range []int{9001, 9002, 10000, 16384, 65536, 1 << 20} {
		for _, one := range []byte{0, 1, 255} {
			checkSeal(t, copiesOf(n, one), nil, false)
		}
	}
	// The room behind the bytes is no part of them.
	checkSeal(t, copiesOf(9001, 3)[:9000], wantSeal(copiesOf(9000, 3)), true)
	checkSeal(t, copiesOf(9001, 3)[:1], wantSeal([]byte{3}), true)
}

func TestP22SealsWriteIntoNoBytes(t *testing.T) {
	for _, b := range append(sealable(), copiesOf(9001, 1), copiesOf(20000, 0)) {
		checkNoByteTurned(t, "Check", b, func(b []byte) []int { return []int{impl.Check(b)} })
		checkNoByteTurned(t, "Seal", b, func(b []byte) []byte {
			sealed, _ := impl.Seal(b)
			return sealed
		})
	}
}
