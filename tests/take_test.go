package tests

import (
	"math"
	"math/big"
	"slices"
	"testing"

	"loop.example/g00110/impl"
)

func threeWays() []int { return []int{impl.First, impl.Last, impl.Mean} }

// partOf is the floor of cost times part through whole, by numbers without an end.
func partOf(cost int, part int, whole int) int {
	product := new(big.Int).Mul(bigOf(cost), bigOf(part))
	return int(product.Div(product, bigOf(whole)).Int64())
}

// inPlace is the list with other lots where its own ones stood.
func inPlace(list []impl.Lot, account int, instr int, own []impl.Lot) []impl.Lot {
	at := impl.Lot{Account: account, Instr: instr}
	ahead, behind := []impl.Lot{}, []impl.Lot{}
	for _, l := range list {
		if !sameHolding(l, at) && lotBefore(l, at) {
			ahead = append(ahead, l)
		} else if !sameHolding(l, at) {
			behind = append(behind, l)
		}
	}
	return slices.Concat(ahead, own, behind)
}

// takenFirst takes whole lots off the front, then a part of the next one.
func takenFirst(own []impl.Lot, qty int) ([]impl.Lot, int) {
	cost := 0
	for qty > 0 && own[0].Qty <= qty {
		qty -= own[0].Qty
		cost += own[0].Cost
		own = own[1:]
	}
	if qty == 0 {
		return own, cost
	}
	rest := slices.Clone(own)
	part := partOf(rest[0].Cost, qty, rest[0].Qty)
	rest[0].Qty -= qty
	rest[0].Cost -= part
	return rest, cost + part
}

// takenLast takes off the front of the lots the other way round.
func takenLast(own []impl.Lot, qty int) ([]impl.Lot, int) {
	turned := slices.Clone(own)
	slices.Reverse(turned)
	left, cost := takenFirst(turned, qty)
	left = slices.Clone(left)
	slices.Reverse(left)
	return left, cost
}

func takenMean(own []impl.Lot, qty int) ([]impl.Lot, int) {
	allQty, allCost := totals(own)
	cost := partOf(allCost, qty, allQty)
	if allQty == qty {
		return nil, cost
	}
	return []impl.Lot{{Account: own[0].Account, Instr: own[0].Instr, No: own[0].No, Qty: allQty - qty, Cost: allCost - cost}}, cost
}

// wantTake is what a take must answer, by the words.
func wantTake(list []impl.Lot, account int, instr int, qty int, way int) ([]impl.Lot, int, int) {
	if !lotsRight(list) || qty < 1 || qty > top || way < 1 || way > 3 {
		return nil, 0, impl.LotBad
	}
	own := ownLots(list, account, instr)
	if have, _ := totals(own); have < qty {
		return list, 0, impl.LotShort
	}
	take := []func([]impl.Lot, int) ([]impl.Lot, int){takenFirst, takenLast, takenMean}[way-1]
	left, cost := take(own, qty)
	return inPlace(list, account, instr, left), cost, impl.LotDone
}

func checkTake(t *testing.T, list []impl.Lot, account int, instr int, qty int, way int, want []impl.Lot, wantCost int, wantCode int) {
	t.Helper()
	if got, cost, code := impl.LotTake(list, account, instr, qty, way); !slices.Equal(got, want) || cost != wantCost || code != wantCode {
		t.Errorf("LotTake(%v, %d, %d, %d, %d) = %v, %d, %d; want %v, %d, %d", list, account, instr, qty, way, got, cost, code, want, wantCost, wantCode)
	}
}

func checkTakeByWords(t *testing.T, list []impl.Lot, account int, instr int, qty int, way int) {
	t.Helper()
	want, cost, code := wantTake(list, account, instr, qty, way)
	checkTake(t, list, account, instr, qty, way, want, cost, code)
	checkAddsUp(t, list, account, instr, qty, way)
}

// checkAddsUp is the promise: what is taken and what is left are what was there, and nobody else's lots are touched.
func checkAddsUp(t *testing.T, list []impl.Lot, account int, instr int, qty int, way int) {
	t.Helper()
	next, cost, code := impl.LotTake(list, account, instr, qty, way)
	if code != impl.LotDone {
		return
	}
	hadQty, hadCost := impl.LotsQty(list, account, instr), impl.LotsCost(list, account, instr)
	leftQty, leftCost := impl.LotsQty(next, account, instr), impl.LotsCost(next, account, instr)
	if !impl.LotsOk(next) || leftQty+qty != hadQty || leftCost+cost != hadCost || cost < 0 {
		t.Errorf("of %v, %d taken by way %d cost %d: %v is left", list, qty, way, cost, next)
	}
	if !slices.Equal(inPlace(list, account, instr, nil), inPlace(next, account, instr, nil)) {
		t.Errorf("of %v, %d taken of %d, %d by way %d touches others: %v", list, qty, account, instr, way, next)
	}
}

// takeCase says what one way leaves of lots of account 5 and instrument 7, and what was taken cost.
type takeCase struct {
	qty, way int
	left     lotRows
	cost     int
}

func checkTakeCases(t *testing.T, own lotRows, cases []takeCase) {
	t.Helper()
	for _, c := range cases {
		checkTake(t, own.lots(), 5, 7, c.qty, c.way, c.left.lots(), c.cost, impl.LotDone)
		checkTake(t, amongOthers(own.lots()), 5, 7, c.qty, c.way, amongOthers(c.left.lots()), c.cost, impl.LotDone)
	}
}

func TestP5TakeOfThreeLots(t *testing.T) {
	checkTakeCases(t, lotRows{{5, 7, 2, 10, 101}, {5, 7, 4, 3, 50}, {5, 7, 9, 7, 20}}, []takeCase{
		{1, impl.First, lotRows{{5, 7, 2, 9, 91}, {5, 7, 4, 3, 50}, {5, 7, 9, 7, 20}}, 10},
		{9, impl.First, lotRows{{5, 7, 2, 1, 11}, {5, 7, 4, 3, 50}, {5, 7, 9, 7, 20}}, 90},
		{10, impl.First, lotRows{{5, 7, 4, 3, 50}, {5, 7, 9, 7, 20}}, 101},
		{11, impl.First, lotRows{{5, 7, 4, 2, 34}, {5, 7, 9, 7, 20}}, 117},
		{13, impl.First, lotRows{{5, 7, 9, 7, 20}}, 151},
		{19, impl.First, lotRows{{5, 7, 9, 1, 3}}, 168},
		{20, impl.First, nil, 171},
		{1, impl.Last, lotRows{{5, 7, 2, 10, 101}, {5, 7, 4, 3, 50}, {5, 7, 9, 6, 18}}, 2},
		{7, impl.Last, lotRows{{5, 7, 2, 10, 101}, {5, 7, 4, 3, 50}}, 20},
		{9, impl.Last, lotRows{{5, 7, 2, 10, 101}, {5, 7, 4, 1, 17}}, 53},
		{10, impl.Last, lotRows{{5, 7, 2, 10, 101}}, 70},
		{11, impl.Last, lotRows{{5, 7, 2, 9, 91}}, 80},
		{19, impl.Last, lotRows{{5, 7, 2, 1, 11}}, 160},
		{20, impl.Last, nil, 171},
		{1, impl.Mean, lotRows{{5, 7, 2, 19, 163}}, 8},
		{10, impl.Mean, lotRows{{5, 7, 2, 10, 86}}, 85},
		{19, impl.Mean, lotRows{{5, 7, 2, 1, 9}}, 162},
		{20, impl.Mean, nil, 171},
	})
}

func TestP5TakeOfOneLot(t *testing.T) {
	for _, way := range threeWays() {
		checkTakeCases(t, lotRows{{5, 7, 3, 7, 10}}, []takeCase{
			{1, way, lotRows{{5, 7, 3, 6, 9}}, 1},
			{3, way, lotRows{{5, 7, 3, 4, 6}}, 4},
			{6, way, lotRows{{5, 7, 3, 1, 2}}, 8},
			{7, way, nil, 10},
		})
		checkTakeCases(t, lotRows{{5, 7, lastNo, top, top}}, []takeCase{
			{1, way, lotRows{{5, 7, lastNo, top - 1, top - 1}}, 1},
			{top - 1, way, lotRows{{5, 7, lastNo, 1, 1}}, top - 1},
			{top, way, nil, top},
		})
		checkTakeCases(t, lotRows{{5, 7, 1, top, top - 1}}, []takeCase{
			{1, way, lotRows{{5, 7, 1, top - 1, top - 1}}, 0},
			{top - 1, way, lotRows{{5, 7, 1, 1, 1}}, top - 2},
		})
		checkTakeCases(t, lotRows{{5, 7, 1, 1, top}}, []takeCase{{1, way, nil, top}})
		checkTakeCases(t, lotRows{{5, 7, 1, 1, 0}}, []takeCase{{1, way, nil, 0}})
	}
}

// A whole lot that costs nothing, and one of which the part rounds down to nothing.
func TestP5TakeOfLotsThatCostLittle(t *testing.T) {
	checkTakeCases(t, lotRows{{5, 7, 1, 5, 0}, {5, 7, 2, 5, 1}, {5, 7, 3, 5, 0}}, []takeCase{
		{5, impl.First, lotRows{{5, 7, 2, 5, 1}, {5, 7, 3, 5, 0}}, 0},
		{9, impl.First, lotRows{{5, 7, 2, 1, 1}, {5, 7, 3, 5, 0}}, 0},
		{10, impl.First, lotRows{{5, 7, 3, 5, 0}}, 1},
		{9, impl.Last, lotRows{{5, 7, 1, 5, 0}, {5, 7, 2, 1, 1}}, 0},
		{10, impl.Last, lotRows{{5, 7, 1, 5, 0}}, 1},
		{14, impl.Mean, lotRows{{5, 7, 1, 1, 1}}, 0},
		{15, impl.Mean, nil, 1},
	})
}

// Each lot has its own cost, which one by all of them together would not tell.
func TestP5TakeOfFarAmounts(t *testing.T) {
	checkTakeCases(t, lotRows{{5, 7, 1, top - 3, 5}, {5, 7, 2, 3, top - 5}}, []takeCase{
		{top - 4, impl.First, lotRows{{5, 7, 1, 1, 1}, {5, 7, 2, 3, top - 5}}, 4},
		{top - 2, impl.First, lotRows{{5, 7, 2, 2, 666666666666664}}, 333333333333336},
		{2, impl.Last, lotRows{{5, 7, 1, top - 3, 5}, {5, 7, 2, 1, 333333333333332}}, 666666666666663},
		{4, impl.Last, lotRows{{5, 7, 1, top - 4, 5}}, top - 5},
		{2, impl.Mean, lotRows{{5, 7, 1, top - 2, top - 2}}, 2},
		{top - 1, impl.Mean, lotRows{{5, 7, 1, 1, 1}}, top - 1},
		{top, impl.Mean, nil, top},
		{top, impl.First, nil, top},
		{top, impl.Last, nil, top},
	})
}

func TestP5TakeOfManyLots(t *testing.T) {
	own := lotsOfOne(impl.MaxLots, 5, 7, 3, 10)
	for n := 1; n <= impl.MaxLots; n++ {
		checkTake(t, own, 5, 7, 3*n, impl.First, own[n:], 10*n, impl.LotDone)
		checkTake(t, own, 5, 7, 3*n, impl.Last, own[:impl.MaxLots-n], 10*n, impl.LotDone)
		for _, qty := range []int{3*n - 2, 3*n - 1, 3 * n} {
			for _, way := range threeWays() {
				checkTakeByWords(t, own, 5, 7, qty, way)
			}
		}
	}
}

func TestP5TakeBad(t *testing.T) {
	for _, list := range rightLots() {
		for _, pair := range [][2]int{{5, 7}, {1, 2}, {900, 900}, {0, 0}} {
			for _, qty := range []int{0, -1, -top, top + 1, math.MaxInt, math.MinInt} {
				for _, way := range threeWays() {
					checkTake(t, list, pair[0], pair[1], qty, way, nil, 0, impl.LotBad)
				}
			}
			for _, way := range []int{0, 4, -1, 5, math.MaxInt, math.MinInt} {
				for _, qty := range []int{0, 1, top, top + 1} {
					checkTake(t, list, pair[0], pair[1], qty, way, nil, 0, impl.LotBad)
				}
			}
		}
	}
}

func TestP5TakeShort(t *testing.T) {
	for _, list := range rightLots() {
		for _, pair := range lotPairs(list) {
			have, _ := totals(ownLots(list, pair[0], pair[1]))
			for _, qty := range []int{have + 1, have + 2, top} {
				if qty <= have || qty > top {
					continue
				}
				for _, way := range threeWays() {
					checkTake(t, list, pair[0], pair[1], qty, way, list, 0, impl.LotShort)
				}
			}
		}
	}
}

func TestP5TakeByTheWords(t *testing.T) {
	for _, list := range append(rightLots(), wrongLots()[:24]...) {
		for _, pair := range lotPairs(list) {
			have, _ := bigTotals(ownLots(list, pair[0], pair[1]))
			all := int(have.Int64())
			for _, qty := range []int{1, 2, 3, 5, 10, all / 3, all / 2, all - 1, all, all + 1} {
				for way := range 5 {
					checkTakeByWords(t, list, pair[0], pair[1], qty, way)
				}
			}
		}
	}
}

// smallOwn are all rows of up to three lots of one, with few pieces and costs.
func smallOwn() [][]impl.Lot {
	lists, from := [][]impl.Lot{{}}, 0
	for range 3 {
		until := len(lists)
		for ; from < until; from++ {
			for code := range 3 * 4 {
				l := impl.Lot{Account: 5, Instr: 7, No: 3 + 2*len(lists[from]), Qty: 1 + code%3, Cost: 5 * (code / 3) / 2}
				lists = append(lists, append(slices.Clone(lists[from]), l))
			}
		}
	}
	return lists
}

func TestP5SmallTakesByTheWords(t *testing.T) {
	for _, own := range smallOwn() {
		for qty := range 11 {
			for _, way := range threeWays() {
				checkTakeByWords(t, own, 5, 7, qty, way)
				checkTakeByWords(t, amongOthers(own), 5, 7, qty, way)
			}
		}
	}
}

// spreadLots are lots of several that are right, the same in each run, of all sizes.
func spreadLots(seed int) []impl.Lot {
	list := []impl.Lot{}
	numbers := wideSpread(seed + 400)[seed:]
	for i := 0; len(list) < impl.MaxLots && i+5 < len(numbers); i += 5 {
		l := impl.Lot{Account: 1 + numbers[i]%3, Instr: 1 + numbers[i+1]%2, No: 1 + numbers[i+2]%lastNo, Qty: 1 + numbers[i+3]/16, Cost: numbers[i+4] / 16}
		if next, code := wantOpen(list, l); code == impl.LotDone {
			list = next
		}
	}
	return list
}

// What is opened one by one is there; what is taken one by one, by whatever way, adds up until nothing is left.
func TestP5SpreadOfTakes(t *testing.T) {
	for seed := range 30 {
		list := spreadLots(seed)
		if !impl.LotsOk(list) || len(list) < 30 {
			t.Fatalf("%d lots that are no spread: %v", len(list), list)
		}
		for step, share := range wideSpread(seed + 60)[seed:] {
			account, instr, way := 1+step%3, 1+step/3%2, 1+share%3
			have := impl.LotsQty(list, account, instr)
			if have == 0 {
				continue
			}
			qty := 1 + share%have
			checkTakeByWords(t, list, account, instr, qty, way)
			list, _, _ = impl.LotTake(list, account, instr, qty, way)
		}
	}
}
