package tests

import (
	"math"
	"math/big"
	"testing"

	"loop.example/g00110/impl"
)

const top = impl.MaxAmount

// wideEdges are the numbers at which a sum, a product or a floor may turn wrong.
func wideEdges() []int {
	list := []int{
		0, 1, 2, 3, 7, 10, 31622776, 31622777, 40000000,
		1<<31 - 1, 1 << 31, 1<<32 - 1, 1 << 32, 1<<32 + 1, 1<<49 - 1, 1 << 49,
		top / 3, top/2 - 1, top / 2, top/2 + 1, top - 2, top - 1, top,
		top + 1, top + 2, 2 * top, 1 << 50, 1 << 62, math.MaxInt - 1, math.MaxInt,
	}
	for _, x := range list[1:len(list):len(list)] {
		list = append(list, -x)
	}
	return append(list, math.MinInt)
}

// wideSpread are amounts from 0 on of all sizes, the same in each run.
func wideSpread(n int) []int {
	list := make([]int, n)
	x := uint64(20261116)
	for i := range list {
		x = x*6364136223846793005 + 1442695040888963407
		list[i] = int((x >> 8) % (top + 1) >> (i % 50))
	}
	return list
}

func bigOf(x int) *big.Int { return big.NewInt(int64(x)) }

func bigIsAmount(x *big.Int) bool { return x.CmpAbs(bigOf(top)) <= 0 }

// wantAmount is what is to be told of an exact x, where the arguments are as they should be.
func wantAmount(x *big.Int, argumentsOk bool) (int, bool) {
	if !argumentsOk || !bigIsAmount(x) {
		return 0, false
	}
	return int(x.Int64()), true
}

func bothAmounts(a, b int) bool { return bigIsAmount(bigOf(a)) && bigIsAmount(bigOf(b)) }

func checkPair(t *testing.T, name string, call func(int, int) (int, bool), a, b int, want int, wantOk bool) {
	t.Helper()
	if got, ok := call(a, b); got != want || ok != wantOk {
		t.Errorf("%s(%d, %d) = %d, %v; want %d, %v", name, a, b, got, ok, want, wantOk)
	}
}

func checkMulDiv(t *testing.T, a, b, c int, wantQ, wantR int, wantOk bool) {
	t.Helper()
	if q, r, ok := impl.MulDiv(a, b, c); q != wantQ || r != wantR || ok != wantOk {
		t.Errorf("MulDiv(%d, %d, %d) = %d, %d, %v; want %d, %d, %v", a, b, c, q, r, ok, wantQ, wantR, wantOk)
	}
}

func TestP1AmountOk(t *testing.T) {
	for _, x := range []int{0, 1, -1, 42, top - 1, top, -top, 1 - top} {
		if !impl.AmountOk(x) {
			t.Errorf("AmountOk(%d) is false", x)
		}
	}
	for _, x := range []int{top + 1, -top - 1, 2 * top, math.MaxInt, math.MinInt, math.MinInt + 1} {
		if impl.AmountOk(x) {
			t.Errorf("AmountOk(%d) is true", x)
		}
	}
	if top != 1000000000000000 {
		t.Error("MaxAmount", top)
	}
}

type pairCase struct {
	a, b, want int
	ok         bool
}

func checkPairs(t *testing.T, name string, call func(int, int) (int, bool), list []pairCase) {
	t.Helper()
	for _, c := range list {
		checkPair(t, name, call, c.a, c.b, c.want, c.ok)
	}
}

func TestP1AddIn(t *testing.T) {
	checkPairs(t, "AddIn", impl.AddIn, []pairCase{
		{2, 3, 5, true},
		{-2, 3, 1, true},
		{0, 0, 0, true},
		{top, 0, top, true},
		{top - 1, 1, top, true},
		{top, -top, 0, true},
		{1 - top, -1, -top, true},
		{top, 1, 0, false},
		{-top, -1, 0, false},
		{top, top, 0, false},
		{-top, -top, 0, false},
		{top + 1, -1, 0, false},
		{-1, top + 1, 0, false},
		{-top - 1, 1, 0, false},
		{1, -top - 1, 0, false},
		{math.MaxInt, math.MinInt, 0, false},
		{math.MaxInt, math.MaxInt, 0, false},
		{math.MinInt, math.MinInt, 0, false},
	})
}

func TestP1SubIn(t *testing.T) {
	checkPairs(t, "SubIn", impl.SubIn, []pairCase{
		{5, 3, 2, true},
		{-3, 4, -7, true},
		{0, top, -top, true},
		{top, top, 0, true},
		{top - 1, -1, top, true},
		{1 - top, 1, -top, true},
		{top, -1, 0, false},
		{-top, 1, 0, false},
		{top, -top, 0, false},
		{top + 1, 1, 0, false},
		{top + 1, top + 1, 0, false},
		{-top - 1, -1, 0, false},
		{0, -top - 1, 0, false},
		{1, top + 1, 0, false},
		{math.MinInt, math.MinInt, 0, false},
		{math.MinInt, 1, 0, false},
		{0, math.MinInt, 0, false},
	})
}

func TestP1MulIn(t *testing.T) {
	checkPairs(t, "MulIn", impl.MulIn, []pairCase{
		{6, 7, 42, true},
		{-6, 7, -42, true},
		{6, -7, -42, true},
		{-6, -7, 42, true},
		{0, -top, 0, true},
		{-top, 0, 0, true},
		{top, 1, top, true},
		{top, -1, -top, true},
		{-top, -1, top, true},
		{top / 1000, 1000, top, true},
		{-30000000, 30000000, -900000000000000, true},
		{31622776, 31622776, 999999961946176, true},
		{31622777, 31622777, 0, false},
		{top/1000 + 1, 1000, 0, false},
		{-top/1000 - 1, 1000, 0, false},
		{top, 2, 0, false},
		{-top, 2, 0, false},
		{top, top, 0, false},
		{-top, top, 0, false},
		{-top, -top, 0, false},
		{1 << 32, 1 << 32, 0, false},
		{1 << 31, 1 << 33, 0, false},
		{top + 1, 0, 0, false},
		{0, top + 1, 0, false},
		{-top - 1, 0, 0, false},
		{0, -top - 1, 0, false},
		{math.MinInt, -1, 0, false},
		{-1, math.MinInt, 0, false},
		{math.MaxInt, math.MaxInt, 0, false},
	})
}

func TestP1DivFloor(t *testing.T) {
	checkPairs(t, "DivFloor", impl.DivFloor, []pairCase{
		{7, 2, 3, true},
		{-7, 2, -4, true},
		{7, -2, -4, true},
		{-7, -2, 3, true},
		{6, 3, 2, true},
		{-6, 3, -2, true},
		{6, -3, -2, true},
		{-6, -3, 2, true},
		{0, 5, 0, true},
		{0, -5, 0, true},
		{1, top, 0, true},
		{-1, top, -1, true},
		{1, -top, -1, true},
		{-1, -top, 0, true},
		{top, 1, top, true},
		{top, -1, -top, true},
		{-top, 1, -top, true},
		{-top, -1, top, true},
		{top - 1, top, 0, true},
		{top - 1, -top, -1, true},
		{1 - top, top, -1, true},
		{-top, top, -1, true},
		{5, 0, 0, false},
		{0, 0, 0, false},
		{-top, 0, 0, false},
		{top + 1, 2, 0, false},
		{-top - 1, 2, 0, false},
		{2, top + 1, 0, false},
		{2, -top - 1, 0, false},
		{math.MinInt, -1, 0, false},
		{math.MaxInt, 1, 0, false},
		{1, math.MinInt, 0, false},
		{1, math.MaxInt, 0, false},
		{math.MinInt, 0, 0, false},
	})
}

func TestP1MulDiv(t *testing.T) {
	for _, c := range []struct {
		a, b, c, q, r int
	}{
		{7, 10, 4, 17, 2},
		{7, 10, 5, 14, 0},
		{7, 10, 71, 0, 70},
		{0, top, 1, 0, 0},
		{top, 0, top, 0, 0},
		{1, 1, top, 0, 1},
		{top, 1, 1, top, 0},
		{1, top, 1, top, 0},
		{top, top, top, top, 0},
		{top - 1, top - 1, top, top - 2, 1},
		{top, top - 1, top, top - 1, 0},
		{top - 1, top, top, top - 1, 0},
		{top - 1, 1, top, 0, top - 1},
		{top, top - 1, top - 1, top, 0},
		{top / 2, 2, 1, top, 0},
		{top / 10, 30, 3, top, 0},
	} {
		checkMulDiv(t, c.a, c.b, c.c, c.q, c.r, true)
	}
}

func TestP1MulDivQuotientThatIsNoAmount(t *testing.T) {
	for _, c := range [][3]int{
		{top, 2, 1},
		{top, top, 1},
		{top, top, top - 1},
		{top, top, 2},
		{333333333333334, 3, 1},
		{1 << 40, 1 << 40, 1 << 16},
		{1 << 40, 1 << 24, 1}, // the low word of this product alone is 0, which is an amount
		{1 << 40, 1 << 40, 1 << 10},
	} {
		checkMulDiv(t, c[0], c[1], c[2], 0, 0, false)
	}
}

// A quotient of just MaxAmount, with and without a rest, and one of one more.
func TestP1MulDivJustMaxAmount(t *testing.T) {
	checkMulDiv(t, top, 7, 7, top, 0, true)
	checkMulDiv(t, 142857142857143, 7, 1, 0, 0, false)
	checkMulDiv(t, 142857142857143, 14, 2, 0, 0, false)
	checkMulDiv(t, 666666666666667, 3, 2, top, 1, true)
	checkMulDiv(t, 666666666666668, 3, 2, 0, 0, false)
	checkMulDiv(t, top-1, top-1, top-2, top, 1, true)
}

func TestP1MulDivWrongArguments(t *testing.T) {
	for _, bad := range []int{-1, -2, -top, -top - 1, top + 1, 2 * top, math.MaxInt, math.MinInt, math.MinInt + 1} {
		for _, fine := range []int{0, 1, 5, top} {
			checkMulDiv(t, bad, fine, 1, 0, 0, false)
			checkMulDiv(t, fine, bad, 1, 0, 0, false)
			checkMulDiv(t, fine, 1, bad, 0, 0, false)
			checkMulDiv(t, bad, bad, top, 0, 0, false)
			checkMulDiv(t, fine, bad, bad, 0, 0, false)
		}
	}
	checkMulDiv(t, 5, 5, 0, 0, 0, false)
	checkMulDiv(t, 0, 0, 0, 0, 0, false)
	checkMulDiv(t, -5, -5, 5, 0, 0, false)
	checkMulDiv(t, -5, 5, -5, 0, 0, false)
}

// Rests of 0 and of one less than the divisor, for small and great divisors.
func TestP1MulDivRests(t *testing.T) {
	for _, c := range []int{1, 2, 3, 1000, 1<<32 - 1, 1 << 32, 1<<32 + 1, top - 1, top} {
		checkMulDiv(t, c, 17, c, 17, 0, true)
		checkMulDiv(t, 17, c, c, 17, 0, true)
		checkMulDiv(t, c-1, 1, c, 0, c-1, true)
		// (c-1)(c-1) is (c-2)c and 1 more; (c-1)(c+1) is (c-1)c and c-1 more.
		if c > 1 {
			checkMulDiv(t, c-1, c-1, c, c-2, 1%c, true)
		}
		if c < top {
			checkMulDiv(t, c-1, c+1, c, c-1, c-1, true)
		}
	}
}

// Every pair of edges, held against exact numbers of any size.
func TestP1PairsOfEdges(t *testing.T) {
	edges := wideEdges()
	for _, a := range edges {
		for _, b := range edges {
			x, y, fine := bigOf(a), bigOf(b), bothAmounts(a, b)
			want, ok := wantAmount(new(big.Int).Add(x, y), fine)
			checkPair(t, "AddIn", impl.AddIn, a, b, want, ok)
			want, ok = wantAmount(new(big.Int).Sub(x, y), fine)
			checkPair(t, "SubIn", impl.SubIn, a, b, want, ok)
			want, ok = wantAmount(new(big.Int).Mul(x, y), fine)
			checkPair(t, "MulIn", impl.MulIn, a, b, want, ok)
			checkFloor(t, a, b, fine && b != 0)
		}
	}
}

// checkFloor asks for what makes a floor: q is not above a by b, and one more is.
func checkFloor(t *testing.T, a, b int, fine bool) {
	t.Helper()
	q, ok := impl.DivFloor(a, b)
	if ok != fine || !ok && q != 0 {
		t.Errorf("DivFloor(%d, %d) = %d, %v", a, b, q, ok)
	}
	if !ok || !fine {
		return
	}
	left := new(big.Int).Sub(bigOf(a), new(big.Int).Mul(bigOf(q), bigOf(b)))
	if left.Sign() != 0 && (left.Sign() < 0) != (b < 0) || left.CmpAbs(bigOf(b)) >= 0 {
		t.Errorf("DivFloor(%d, %d) = %d is no floor", a, b, q)
	}
}

func wantMulDiv(a, b, c int) (int, int, bool) {
	if a < 0 || b < 0 || c < 1 || a > top || b > top || c > top {
		return 0, 0, false
	}
	q, r := new(big.Int).QuoRem(new(big.Int).Mul(bigOf(a), bigOf(b)), bigOf(c), new(big.Int))
	if !bigIsAmount(q) {
		return 0, 0, false
	}
	return int(q.Int64()), int(r.Int64()), true
}

func TestP1MulDivEdgesOfThree(t *testing.T) {
	edges := wideEdges()
	for _, a := range edges {
		for _, b := range edges {
			for _, c := range edges {
				q, r, ok := wantMulDiv(a, b, c)
				checkMulDiv(t, a, b, c, q, r, ok)
			}
		}
	}
}

func TestP1SpreadOfAmounts(t *testing.T) {
	spread := wideSpread(3000)
	for i := 2; i < len(spread); i++ {
		a, b, c := spread[i-2], spread[i-1], spread[i]
		q, r, ok := wantMulDiv(a, b, c)
		checkMulDiv(t, a, b, c, q, r, ok)
		// A divisor above one of the factors keeps the quotient an amount.
		q, r, ok = wantMulDiv(a, b, max(a, 1))
		checkMulDiv(t, a, b, max(a, 1), q, r, ok)
		for _, pair := range [][2]int{{a, b}, {-a, b}, {a, -b}, {-a, -b}} {
			product := new(big.Int).Mul(bigOf(pair[0]), bigOf(pair[1]))
			want, fits := wantAmount(product, true)
			checkPair(t, "MulIn", impl.MulIn, pair[0], pair[1], want, fits)
			checkFloor(t, pair[0], pair[1], b != 0)
		}
	}
}
