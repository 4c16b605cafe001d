package tests

import (
	"math"
	"slices"
	"testing"

	"loop.example/g00110/impl"
)

// wantScale is what a scale must answer, by the words: the chapter hands the new Qtys to Shares.
func wantScale(list []impl.Lot, account int, instr int, qty int) ([]impl.Lot, int) {
	if !lotsRight(list) || qty < 0 || qty > top {
		return nil, impl.LotBad
	}
	own := ownLots(list, account, instr)
	if len(own) == 0 && qty != 0 {
		return list, impl.LotShort
	}
	if len(own) > 40 {
		return list, impl.LotFull
	}
	weights := []int{}
	for _, l := range own {
		weights = append(weights, l.Qty)
	}
	shares, _ := impl.Shares(qty, weights)
	for i, share := range shares {
		own[i].Qty = share
	}
	return inPlace(list, account, instr, keptLots(own)), impl.LotDone
}

// keptLots are the lots with pieces, to the first of which the costs of the others go.
func keptLots(own []impl.Lot) []impl.Lot {
	kept := slices.DeleteFunc(slices.Clone(own), func(l impl.Lot) bool { return l.Qty == 0 })
	gone := slices.DeleteFunc(slices.Clone(own), func(l impl.Lot) bool { return l.Qty != 0 })
	if len(kept) > 0 {
		_, cost := totals(gone)
		kept[0].Cost += cost
	}
	return kept
}

func checkScale(t *testing.T, list []impl.Lot, account int, instr int, qty int, want []impl.Lot, wantCode int) {
	t.Helper()
	if got, code := impl.LotsScale(list, account, instr, qty); !slices.Equal(got, want) || code != wantCode {
		t.Errorf("LotsScale(%v, %d, %d, %d) = %v, %d; want %v, %d", list, account, instr, qty, got, code, want, wantCode)
	}
}

func checkScaleByWords(t *testing.T, list []impl.Lot, account int, instr int, qty int) {
	t.Helper()
	want, code := wantScale(list, account, instr, qty)
	checkScale(t, list, account, instr, qty, want, code)
	checkScaled(t, list, account, instr, qty)
}

// checkScaled is the promise: scaled lots have just the new number, and cost what they cost; nobody else's are touched.
func checkScaled(t *testing.T, list []impl.Lot, account int, instr int, qty int) {
	t.Helper()
	next, code := impl.LotsScale(list, account, instr, qty)
	if code != impl.LotDone {
		return
	}
	cost := impl.LotsCost(list, account, instr)
	if qty == 0 {
		cost = 0
	}
	if !impl.LotsOk(next) || impl.LotsQty(next, account, instr) != qty || impl.LotsCost(next, account, instr) != cost {
		t.Errorf("%v scaled to %d are %v", list, qty, next)
	}
	if !slices.Equal(inPlace(list, account, instr, nil), inPlace(next, account, instr, nil)) {
		t.Errorf("%v of %d, %d scaled to %d touches others: %v", list, account, instr, qty, next)
	}
}

// checkScaleCases scales lots of account 5 and instrument 7, alone and among others.
func checkScaleCases(t *testing.T, own lotRows, cases map[int]lotRows) {
	t.Helper()
	for qty, left := range cases {
		checkScale(t, own.lots(), 5, 7, qty, left.lots(), impl.LotDone)
		checkScale(t, amongOthers(own.lots()), 5, 7, qty, amongOthers(left.lots()), impl.LotDone)
		checkScaled(t, amongOthers(own.lots()), 5, 7, qty)
	}
}

func TestP5Scale(t *testing.T) {
	checkScaleCases(t, lotRows{{5, 7, 2, 1, 100}, {5, 7, 4, 2, 20}, {5, 7, 9, 4, 3}}, map[int]lotRows{
		0:  nil,
		1:  {{5, 7, 9, 1, 123}},
		2:  {{5, 7, 4, 1, 120}, {5, 7, 9, 1, 3}},
		3:  {{5, 7, 4, 1, 120}, {5, 7, 9, 2, 3}},
		4:  {{5, 7, 2, 1, 100}, {5, 7, 4, 1, 20}, {5, 7, 9, 2, 3}},
		7:  {{5, 7, 2, 1, 100}, {5, 7, 4, 2, 20}, {5, 7, 9, 4, 3}},
		14: {{5, 7, 2, 2, 100}, {5, 7, 4, 4, 20}, {5, 7, 9, 8, 3}},
		15: {{5, 7, 2, 2, 100}, {5, 7, 4, 4, 20}, {5, 7, 9, 9, 3}},
	})
	checkScaleCases(t, lotRows{{5, 7, 3, 7, 10}}, map[int]lotRows{
		0:   nil,
		1:   {{5, 7, 3, 1, 10}},
		7:   {{5, 7, 3, 7, 10}},
		8:   {{5, 7, 3, 8, 10}},
		top: {{5, 7, 3, top, 10}},
	})
}

// The lots that are gone stand at the front, in the middle and at the end; the first that is left has what they cost.
func TestP5ScaleOfLotsThatAreGone(t *testing.T) {
	checkScaleCases(t, lotRows{{5, 7, 1, 1, 7}, {5, 7, 2, 9, 20}, {5, 7, 3, 9, 50}}, map[int]lotRows{2: {{5, 7, 2, 1, 27}, {5, 7, 3, 1, 50}}})
	checkScaleCases(t, lotRows{{5, 7, 1, 9, 20}, {5, 7, 2, 1, 7}, {5, 7, 3, 9, 50}}, map[int]lotRows{2: {{5, 7, 1, 1, 27}, {5, 7, 3, 1, 50}}})
	checkScaleCases(t, lotRows{{5, 7, 1, 9, 20}, {5, 7, 2, 9, 50}, {5, 7, 3, 1, 7}}, map[int]lotRows{2: {{5, 7, 1, 1, 27}, {5, 7, 2, 1, 50}}})
	checkScaleCases(t, lotRows{{5, 7, 1, 1, 7}, {5, 7, 2, 9, 20}, {5, 7, 3, 1, 50}}, map[int]lotRows{1: {{5, 7, 2, 1, 77}}})
	checkScaleCases(t, lotRows{{5, 7, 1, 1, 7}, {5, 7, 2, 1, 20}, {5, 7, 3, 9, 50}}, map[int]lotRows{1: {{5, 7, 3, 1, 77}}})
	checkScaleCases(t, lotRows{{5, 7, 1, 9, 7}, {5, 7, 2, 1, 20}, {5, 7, 3, 1, 50}}, map[int]lotRows{1: {{5, 7, 1, 1, 77}}})
	checkScaleCases(t, lotRows{{5, 7, 1, 1, 1}, {5, 7, 2, 9, 2}, {5, 7, 3, 1, 4}, {5, 7, 4, 9, 8}, {5, 7, 5, 1, 16}}, map[int]lotRows{
		0: nil,
		1: {{5, 7, 2, 1, 31}},
		2: {{5, 7, 2, 1, 23}, {5, 7, 4, 1, 8}},
	})
	// Lots alike: the one with the lower number has the piece.
	checkScaleCases(t, lotRows{{5, 7, 1, 4, 7}, {5, 7, 2, 4, 20}, {5, 7, 3, 4, 50}}, map[int]lotRows{
		1: {{5, 7, 1, 1, 77}},
		2: {{5, 7, 1, 1, 57}, {5, 7, 2, 1, 20}},
	})
	checkScaleCases(t, lotRows{{5, 7, 1, 1, top - 1}, {5, 7, 2, top - 1, 1}}, map[int]lotRows{1: {{5, 7, 2, 1, top}}})
}

func TestP5ScaleOfFarAmounts(t *testing.T) {
	checkScaleCases(t, lotRows{{5, 7, 1, 1, 5}, {5, 7, 2, 1, 6}, {5, 7, 3, 1, 7}}, map[int]lotRows{
		top: {{5, 7, 1, 333333333333334, 5}, {5, 7, 2, 333333333333333, 6}, {5, 7, 3, 333333333333333, 7}},
	})
	checkScaleCases(t, lotRows{{5, 7, 1, top - 1, 5}, {5, 7, lastNo, 1, 6}}, map[int]lotRows{
		top:     {{5, 7, 1, top - 1, 5}, {5, 7, lastNo, 1, 6}},
		top - 1: {{5, 7, 1, top - 2, 5}, {5, 7, lastNo, 1, 6}},
		2:       {{5, 7, 1, 2, 11}},
		0:       nil,
	})
}

func TestP5ScaleOfNoLots(t *testing.T) {
	for _, list := range [][]impl.Lot{nil, amongOthers(nil), manyLots(impl.MaxLots, 3, 5), lotsOfOne(impl.MaxLots, 5, 8, 1, 1)} {
		for _, pair := range [][2]int{{5, 5}, {6, 7}, {1, 1}, {1000, 1000}, {0, 7}, {5, -1}, {1001, 7}} {
			checkScale(t, list, pair[0], pair[1], 0, list, impl.LotDone)
			checkScale(t, list, pair[0], pair[1], 1, list, impl.LotShort)
			checkScale(t, list, pair[0], pair[1], top, list, impl.LotShort)
			checkScale(t, list, pair[0], pair[1], -1, nil, impl.LotBad)
			checkScale(t, list, pair[0], pair[1], top+1, nil, impl.LotBad)
		}
	}
}

func TestP5ScaleBad(t *testing.T) {
	for _, list := range rightLots() {
		for _, pair := range lotPairs(list) {
			for _, qty := range []int{-1, -2, -top, top + 1, 2 * top, math.MaxInt, math.MinInt} {
				checkScale(t, list, pair[0], pair[1], qty, nil, impl.LotBad)
			}
		}
	}
}

// Just MaxWeights lots of one are scaled, whatever others there are; one more is refused, also to 0 and to what they have.
func TestP5ScaleOfManyLots(t *testing.T) {
	others := lotsOfOne(50, 5, 8, 1, 1)
	for _, n := range []int{impl.MaxWeights - 1, impl.MaxWeights, impl.MaxWeights + 1, impl.MaxWeights + 2, impl.MaxLots - 50} {
		list := append(lotsOfOne(n, 5, 7, 3, 10), others...)
		for _, qty := range []int{0, 1, n - 1, n, 2*n + 1, 3 * n, 6 * n, top} {
			if n > impl.MaxWeights {
				checkScale(t, list, 5, 7, qty, list, impl.LotFull)
			}
			checkScaleByWords(t, list, 5, 7, qty)
		}
		checkScale(t, list, 5, 7, -1, nil, impl.LotBad)
		checkScale(t, list, 5, 7, top+1, nil, impl.LotBad)
	}
	full := lotsOfOne(impl.MaxWeights, 5, 7, 3, 10)
	checkScale(t, full, 5, 7, 3*impl.MaxWeights, full, impl.LotDone)
	checkScale(t, full, 5, 7, 6*impl.MaxWeights, lotsOfOne(impl.MaxWeights, 5, 7, 6, 10), impl.LotDone)
	checkScale(t, full, 5, 7, 1, lotRows{{5, 7, 2, 1, 10 * impl.MaxWeights}}.lots(), impl.LotDone)
	checkScale(t, full, 5, 7, 0, nil, impl.LotDone)
}

func TestP5ScaleByTheWords(t *testing.T) {
	for _, list := range append(rightLots(), wrongLots()[:24]...) {
		for _, pair := range lotPairs(list) {
			have, _ := bigTotals(ownLots(list, pair[0], pair[1]))
			all := int(have.Int64())
			for _, qty := range []int{-1, 0, 1, 2, 3, 10, 41, all / 3, all - 1, all, all + 1, 3 * all, top, top + 1} {
				checkScaleByWords(t, list, pair[0], pair[1], qty)
			}
		}
	}
}

func TestP5SmallScalesByTheWords(t *testing.T) {
	for _, own := range smallOwn() {
		for qty := range 12 {
			checkScaleByWords(t, own, 5, 7, qty)
			checkScaleByWords(t, amongOthers(own), 5, 7, qty)
		}
	}
}

func TestP5SpreadOfScales(t *testing.T) {
	for seed := range 30 {
		list := spreadLots(seed)
		for step, x := range wideSpread(seed + 60)[seed:] {
			account, instr, qty := 1+step%3, 1+step/3%2, x
			if step%4 == 0 {
				qty = x % 30
			}
			checkScaleByWords(t, list, account, instr, qty)
			if next, code := impl.LotsScale(list, account, instr, qty); code == impl.LotDone && qty > 0 {
				list = next
			}
		}
	}
}
