package tests

import (
	"math"
	"math/big"
	"slices"
	"testing"

	"loop.example/g00110/impl"
)

// repeated is a list of n times the same number.
func repeated(n int, x int) []int {
	list := make([]int, n)
	for i := range list {
		list[i] = x
	}
	return list
}

// wrongWeights are lists that break one rule of WeightsOk each, or several.
func wrongWeights() [][]int {
	return [][]int{
		nil,
		{},
		{0},
		{0, 0, 0},
		repeated(impl.MaxWeights, 0),
		{-1},
		{-1, 2},
		{2, -1},
		{5, -1, 5},
		{-1, -1},
		{-top, top},
		{top, -top, top},
		{top + 1},
		{top + 1, 0},
		{0, top + 1},
		{top + 1, -1},
		{top, 1},
		{1, top},
		{top, 0, 1},
		{top / 2, top / 2, 1},
		{top, top},
		{math.MaxInt},
		{math.MinInt},
		{math.MaxInt, math.MinInt, 2},
		{math.MaxInt, math.MaxInt, 3},
		{math.MaxInt, 1},
		repeated(impl.MaxWeights, top),
		repeated(impl.MaxWeights+1, 1),
		repeated(impl.MaxWeights+1, 0),
		append(repeated(impl.MaxWeights, 1), 0),
		append([]int{0}, repeated(impl.MaxWeights, 1)...),
		repeated(1000, 1),
	}
}

// rightWeights are lists at the edges of WeightsOk.
func rightWeights() [][]int {
	return [][]int{
		{1},
		{7},
		{top},
		{1, 1},
		{3, 3, 3},
		{0, 1},
		{1, 0},
		{0, 0, 5, 0},
		{0, 3, 2},
		{3, 0, 2},
		{3, 2, 0},
		{1, 0, 6, 2},
		{1, 2, 3, 4, 5, 6},
		{6, 5, 4, 3, 2, 1},
		{4, 1, 4, 1, 4, 1, 4},
		{top, 0},
		{0, top},
		{top - 1, 1},
		{1, top - 1},
		{top / 2, top / 2},
		{top/2 - 1, top/2 + 1},
		{top - 2, 1, 1},
		{333333333333333, 333333333333333, 333333333333334},
		repeated(impl.MaxWeights, 1),
		repeated(impl.MaxWeights, top/impl.MaxWeights),
		append(repeated(impl.MaxWeights-1, 0), 1),
		append([]int{1}, repeated(impl.MaxWeights-1, 0)...),
		wideSpread(13)[9:],
	}
}

func rightTotals() []int {
	return []int{0, 1, 2, 3, 5, 10, 39, 40, 41, 60, 997, 1 << 32, 1 << 40, top/3 + 1, top - 1, top}
}

func wrongTotals() []int {
	return []int{-1, -2, -top, -top - 1, top + 1, 2 * top, math.MaxInt, math.MinInt}
}

func sumOf(list []int) int {
	sum := 0
	for _, x := range list {
		sum += x
	}
	return sum
}

func checkQuota(t *testing.T, total int, weights []int, i int, wantQ, wantR int, wantOk bool) {
	t.Helper()
	if q, r, ok := impl.ShareQuota(total, weights, i); q != wantQ || r != wantR || ok != wantOk {
		t.Errorf("ShareQuota(%d, %v, %d) = %d, %d, %v; want %d, %d, %v", total, weights, i, q, r, ok, wantQ, wantR, wantOk)
	}
}

func checkOrder(t *testing.T, total int, weights []int, want []int) {
	t.Helper()
	if got := impl.ShareOrder(total, weights); !slices.Equal(got, want) {
		t.Errorf("ShareOrder(%d, %v) = %v; want %v", total, weights, got, want)
	}
}

func checkShares(t *testing.T, total int, weights []int, want []int, wantOk bool) {
	t.Helper()
	if got, ok := impl.Shares(total, weights); !slices.Equal(got, want) || ok != wantOk {
		t.Errorf("Shares(%d, %v) = %v, %v; want %v, %v", total, weights, got, ok, want, wantOk)
	}
}

func TestP2WeightsOk(t *testing.T) {
	for _, weights := range rightWeights() {
		if !impl.WeightsOk(weights) {
			t.Errorf("WeightsOk(%v) is false", weights)
		}
	}
	for _, weights := range wrongWeights() {
		if impl.WeightsOk(weights) {
			t.Errorf("WeightsOk(%v) is true", weights)
		}
	}
	if impl.MaxWeights != 40 {
		t.Error("MaxWeights", impl.MaxWeights)
	}
}

func TestP2ShareQuota(t *testing.T) {
	for _, c := range []struct {
		total   int
		weights []int
		i, q, r int
	}{
		{5, []int{1, 0, 6, 2}, 0, 0, 5},
		{5, []int{1, 0, 6, 2}, 1, 0, 0},
		{5, []int{1, 0, 6, 2}, 2, 3, 3},
		{5, []int{1, 0, 6, 2}, 3, 1, 1},
		{10, []int{3, 3, 3}, 2, 3, 3},
		{12, []int{1, 2, 3}, 0, 2, 0},
		{12, []int{1, 2, 3}, 1, 4, 0},
		{12, []int{1, 2, 3}, 2, 6, 0},
		{0, []int{1, 2, 3}, 2, 0, 0},
		{top, []int{1}, 0, top, 0},
		{top, []int{top}, 0, top, 0},
		{1, []int{top - 1, 1}, 0, 0, top - 1},
		{1, []int{top - 1, 1}, 1, 0, 1},
		{top, []int{top - 1, 1}, 0, top - 1, 0},
		{top - 1, []int{top - 1, 1}, 0, top - 2, 1},
		{top - 1, []int{top - 1, 1}, 1, 0, top - 1},
		{top, []int{1, 1, 1}, 1, 333333333333333, 1},
	} {
		checkQuota(t, c.total, c.weights, c.i, c.q, c.r, true)
	}
}

func TestP2ShareQuotaOfNoWeight(t *testing.T) {
	for _, weights := range rightWeights() {
		for _, i := range []int{-1, -2, len(weights), len(weights) + 1, impl.MaxWeights, math.MaxInt, math.MinInt} {
			checkQuota(t, 5, weights, i, 0, 0, false)
			checkQuota(t, 0, weights, i, 0, 0, false)
			checkQuota(t, -1, weights, i, 0, 0, false)
		}
	}
	// The room behind a list is not part of it.
	long := []int{1, 2, 3, 4}
	checkQuota(t, 6, long[:3], 3, 0, 0, false)
	checkQuota(t, 6, long[:3], 2, 3, 0, true)
}

func TestP2ShareOrder(t *testing.T) {
	checkOrder(t, 5, []int{1, 0, 6, 2}, []int{0, 2, 3, 1})
	checkOrder(t, 10, []int{3, 3, 3}, []int{0, 1, 2})
	checkOrder(t, 12, []int{3, 2, 1}, []int{0, 1, 2})
	checkOrder(t, 0, []int{1, 9, 5}, []int{0, 1, 2})
	checkOrder(t, 7, []int{9}, []int{0})
	// The rests of 1, 2 and 4 in 7 of a total of 2 are 2, 4 and 1.
	checkOrder(t, 2, []int{1, 2, 4}, []int{1, 0, 2})
	checkOrder(t, 2, []int{4, 2, 1}, []int{1, 2, 0})
	checkOrder(t, 1, []int{1, 2, 4}, []int{2, 1, 0})
	// A weight of 0 has no more left over than one that comes out even, and stands among those by its number.
	checkOrder(t, 3, []int{0, 1, 2, 0, 1}, []int{1, 4, 2, 0, 3})
	checkOrder(t, 4, []int{0, 2, 0, 2}, []int{0, 1, 2, 3})
	// As much left over, though the whole shares differ: 1 and 6 in 10 of 6 leave 6 each.
	checkOrder(t, 6, []int{3, 6, 1}, []int{0, 1, 2})
	checkOrder(t, 6, []int{1, 3, 6}, []int{1, 0, 2})
	checkOrder(t, 6, []int{6, 1, 3}, []int{2, 0, 1})
	checkOrder(t, top-1, []int{top - 1, 1}, []int{1, 0})
}

// With as much left over by all of them, the numbers stand as they are, whatever their count is.
func TestP2ShareOrderOfManyAlike(t *testing.T) {
	for n := 1; n <= impl.MaxWeights; n++ {
		want := make([]int, n)
		for i := range want {
			want[i] = i
		}
		for _, total := range []int{0, 1, n - 1, n, n + 1, top} {
			checkOrder(t, total, repeated(n, 1), want)
			checkOrder(t, total, repeated(n, top/n), want)
		}
	}
}

func TestP2Shares(t *testing.T) {
	for _, c := range []struct {
		total         int
		weights, want []int
	}{
		{10, []int{3, 3, 3}, []int{4, 3, 3}},
		{11, []int{3, 3, 3}, []int{4, 4, 3}},
		{12, []int{3, 3, 3}, []int{4, 4, 4}},
		{5, []int{1, 0, 6, 2}, []int{1, 0, 3, 1}},
		{0, []int{7}, []int{0}},
		{0, []int{7, 0, 2}, []int{0, 0, 0}},
		{9, []int{7}, []int{9}},
		{top, []int{1}, []int{top}},
		{top, []int{top}, []int{top}},
		{12, []int{1, 2, 3}, []int{2, 4, 6}},
		{1, []int{1, 1}, []int{1, 0}},
		{1, []int{0, 1, 1}, []int{0, 1, 0}},
		{2, []int{1, 2, 4}, []int{0, 1, 1}},
		{1, []int{1, 2, 4}, []int{0, 0, 1}},
		{top, []int{1, 1, 1}, []int{333333333333334, 333333333333333, 333333333333333}},
		{top - 1, []int{top - 1, 1}, []int{top - 2, 1}},
		{top, []int{1, top - 1}, []int{1, top - 1}},
		{top, []int{0, top, 0}, []int{0, top, 0}},
		{top, []int{2, 0, 5}, []int{285714285714286, 0, 714285714285714}},
	} {
		checkShares(t, c.total, c.weights, c.want, true)
	}
}

// Of weights 1, 3 and 6 and a total of 6, the rests are 6, 8 and 6, and two are missing: the lower number of two alike has it.
func TestP2SharesOfRestsAlike(t *testing.T) {
	checkShares(t, 6, []int{1, 3, 6}, []int{1, 2, 3}, true)
	checkShares(t, 6, []int{6, 1, 3}, []int{4, 0, 2}, true)
	checkShares(t, 6, []int{3, 1, 6}, []int{2, 1, 3}, true)
	checkShares(t, 6, []int{3, 6, 1}, []int{2, 4, 0}, true)
}

func TestP2SharesOfManyAlike(t *testing.T) {
	for n := 1; n <= impl.MaxWeights; n++ {
		for total := 0; total <= 2*n; total++ {
			want := repeated(n, total/n)
			for i := range total % n {
				want[i]++
			}
			checkShares(t, total, repeated(n, 5), want, true)
		}
	}
}

// A weight of 0 gets nothing, wherever it stands and however few the others are.
func TestP2NothingForAWeightOfNothing(t *testing.T) {
	for _, n := range []int{2, 3, 17, impl.MaxWeights} {
		for _, place := range []int{0, n / 2, n - 1} {
			weights := repeated(n, 3)
			weights[place] = 0
			want := repeated(n, 1)
			want[place] = 0
			checkShares(t, n-1, weights, want, true)
			alone := repeated(n, 0)
			alone[place] = 9
			only := repeated(n, 0)
			only[place] = top
			checkShares(t, top, alone, only, true)
		}
	}
}

// checkFair asks for what the chapter promises of shares, with exact numbers.
func checkFair(t *testing.T, total int, weights []int) {
	t.Helper()
	shares, ok := impl.Shares(total, weights)
	if !ok || len(shares) != len(weights) || sumOf(shares) != total {
		t.Errorf("Shares(%d, %v) = %v, %v do not add up", total, weights, shares, ok)
		return
	}
	sum := bigOf(sumOf(weights))
	for i, weight := range weights {
		// off is the share less its exact one, times the sum of the weights.
		off := new(big.Int).Mul(bigOf(shares[i]), sum)
		off.Sub(off, new(big.Int).Mul(bigOf(total), bigOf(weight)))
		if off.CmpAbs(sum) >= 0 || weight == 0 && shares[i] != 0 {
			t.Errorf("Shares(%d, %v) = %v: number %d is off", total, weights, shares, i)
		}
		for j, other := range weights {
			if weight > other && shares[i] < shares[j] || weight == other && i < j && shares[i] < shares[j] {
				t.Errorf("Shares(%d, %v) = %v: number %d has less than %d", total, weights, shares, i, j)
			}
		}
	}
}

// checkByTheWords holds all three answers against what the chapter says, worked out by exact numbers and a plain search.
func checkByTheWords(t *testing.T, total int, weights []int) {
	t.Helper()
	sum := sumOf(weights)
	shares, rests := make([]int, len(weights)), make([]int, len(weights))
	for i, weight := range weights {
		shares[i], rests[i], _ = wantMulDiv(total, weight, sum)
		checkQuota(t, total, weights, i, shares[i], rests[i], true)
	}
	order := []int{}
	taken := make([]bool, len(weights))
	for range weights {
		best := -1
		for i := range weights {
			if !taken[i] && (best < 0 || rests[i] > rests[best]) {
				best = i
			}
		}
		taken[best] = true
		order = append(order, best)
	}
	checkOrder(t, total, weights, order)
	for k := 0; sumOf(shares) < total; k++ {
		shares[order[k]]++
	}
	checkShares(t, total, weights, shares, true)
}

func TestP2AllRightWeightsAndTotals(t *testing.T) {
	for _, weights := range rightWeights() {
		for _, total := range rightTotals() {
			checkFair(t, total, weights)
			checkByTheWords(t, total, weights)
		}
		// The sum itself and its multiples leave nothing over.
		sum := sumOf(weights)
		checkShares(t, sum, weights, weights, true)
	}
}

func TestP2SmallWeightsAndTotals(t *testing.T) {
	for code := 1; code < 6*6*6*6; code++ {
		weights := []int{code % 6, code / 6 % 6, code / 36 % 6, code / 216}
		for total := range 14 {
			checkFair(t, total, weights)
			checkByTheWords(t, total, weights)
		}
	}
}

func TestP2SpreadOfWeights(t *testing.T) {
	spread := wideSpread(2000)
	for i := range 400 {
		n := 1 + i%impl.MaxWeights
		weights := make([]int, n)
		for k := range weights {
			weights[k] = spread[(i*7+k*13)%len(spread)] / n
		}
		weights[i%n]++
		checkFair(t, spread[i], weights)
		checkByTheWords(t, spread[i], weights)
		checkByTheWords(t, top-spread[i], weights)
	}
}

func TestP2WrongWeightsShareNothing(t *testing.T) {
	for _, weights := range wrongWeights() {
		for _, total := range append(rightTotals(), wrongTotals()...) {
			for _, i := range []int{-1, 0, 1, len(weights) - 1, len(weights)} {
				checkQuota(t, total, weights, i, 0, 0, false)
			}
			checkOrder(t, total, weights, nil)
			checkShares(t, total, weights, nil, false)
		}
	}
}

func TestP2WrongTotalsShareNothing(t *testing.T) {
	for _, weights := range rightWeights() {
		for _, total := range wrongTotals() {
			for i := range weights {
				checkQuota(t, total, weights, i, 0, 0, false)
			}
			checkOrder(t, total, weights, nil)
			checkShares(t, total, weights, nil, false)
		}
	}
}

const spareMark = -77

// withRoom is a copy of weights with marked room behind it, and that room.
func withRoom(weights []int) ([]int, []int) {
	whole := append(slices.Clone(weights), repeated(50, spareMark)...)
	return whole[:len(weights)], whole[len(weights):]
}

func TestP22SharesWriteIntoNoWeights(t *testing.T) {
	for _, given := range append(rightWeights(), wrongWeights()...) {
		for _, total := range []int{0, 1, 5, 41, top, -1, top + 1} {
			weights, room := withRoom(given)
			impl.WeightsOk(weights)
			for _, i := range []int{-1, 0, len(weights) - 1, len(weights)} {
				impl.ShareQuota(total, weights, i)
			}
			order := impl.ShareOrder(total, weights)
			shares, _ := impl.Shares(total, weights)
			wantOrder, wantShares := slices.Clone(order), slices.Clone(shares)
			if !slices.Equal(weights, given) || !slices.Equal(room, repeated(50, spareMark)) {
				t.Errorf("total %d: weights %v became %v, room %v", total, given, weights, room)
			}
			// Whoever writes on into the weights turns no answer, and the other way round.
			overwrite(weights, -5)
			overwrite(room, -6)
			if !slices.Equal(order, wantOrder) || !slices.Equal(shares, wantShares) {
				t.Errorf("total %d, weights %v: answers share memory with them", total, given)
			}
			overwrite(order[:cap(order)], -7)
			if !slices.Equal(shares, wantShares) {
				t.Errorf("total %d, weights %v: answers share memory", total, given)
			}
			overwrite(shares[:cap(shares)], -8)
			if sumOf(weights) != -5*len(weights) || sumOf(room) != -6*len(room) {
				t.Errorf("total %d, weights %v: answers share memory with them", total, given)
			}
		}
	}
}

func overwrite(list []int, x int) {
	for i := range list {
		list[i] = x
	}
}

// Two calls of the same tell the same, whatever was done to the first answer.
func TestP22SharesAreNewEachTime(t *testing.T) {
	weights := []int{4, 0, 9, 9, 1}
	first, _ := impl.Shares(12, weights)
	order := impl.ShareOrder(12, weights)
	wantShares, wantOrder := slices.Clone(first), slices.Clone(order)
	overwrite(first, 99)
	overwrite(order, 99)
	checkShares(t, 12, weights, wantShares, true)
	checkOrder(t, 12, weights, wantOrder)
}
