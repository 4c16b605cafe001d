package tests

import (
	"math"
	"math/big"
	"slices"
	"testing"

	"loop.example/g00110/impl"
)

// lastNo is the greatest number of a lot.
const lastNo = 1000000000

// lotRows are lots in short: account, instrument, number, pieces, cost.
type lotRows [][5]int

func (r lotRows) lots() []impl.Lot {
	list := []impl.Lot{}
	for _, row := range r {
		list = append(list, lotOf(row))
	}
	return list
}

func lotOf(row [5]int) impl.Lot {
	return impl.Lot{Account: row[0], Instr: row[1], No: row[2], Qty: row[3], Cost: row[4]}
}

// lotsOfOne are n lots of one account and instrument, their numbers two apart from 2 on.
func lotsOfOne(n int, account int, instr int, qty int, cost int) []impl.Lot {
	list := make([]impl.Lot, n)
	for i := range list {
		list[i] = impl.Lot{Account: account, Instr: instr, No: 2 + 2*i, Qty: qty, Cost: cost}
	}
	return list
}

// manyLots are n lots that are right: two instruments an account, and three lots of each.
func manyLots(n int, qty int, cost int) []impl.Lot {
	list := make([]impl.Lot, n)
	for i := range list {
		list[i] = impl.Lot{Account: 5 * (i/6 + 1), Instr: 7 + i/3%2, No: 2 + i%3*2, Qty: qty, Cost: cost}
	}
	return list
}

// amongOthers are lots of account 5 and instrument 7 between lots of others, some of which have one of both alike.
func amongOthers(own []impl.Lot) []impl.Lot {
	ahead := lotRows{{4, 7, 3, 8, 80}, {4, 9, 1, 5, 55}, {5, 6, 2, 6, 66}}.lots()
	behind := lotRows{{5, 8, 1, 7, 70}, {7, 5, 2, 9, 0}, {7, 7, 1, 1, 10}}.lots()
	return slices.Concat(ahead, own, behind)
}

func rightLots() [][]impl.Lot {
	return [][]impl.Lot{
		nil,
		{},
		lotRows{{1, 1, 1, 1, 0}}.lots(),
		lotRows{{1, impl.MaxNo, lastNo, top, top}}.lots(),
		lotRows{{impl.MaxNo, 1, 1, top, 0}}.lots(),
		lotRows{{impl.MaxNo, impl.MaxNo, lastNo, 1, top}}.lots(),
		lotRows{{1, 2, 1, 10, 100}, {1, 2, 5, 20, 500}, {3, 2, 2, 1, 1}}.lots(),
		lotRows{{1, 2, 9, 4, 4}, {1, 3, 4, 4, 4}, {2, 1, 1, 4, 4}}.lots(),
		lotRows{{5, 7, 1, 1, 1}, {5, 7, 2, 1, 1}}.lots(),
		lotRows{{5, 7, 1, top - 1, 0}, {5, 7, lastNo, 1, top}}.lots(),
		lotRows{{5, 7, 1, 1, top - 1}, {5, 7, 2, top - 1, 1}}.lots(),
		lotRows{{5, 7, 1, top / 2, top / 2}, {5, 7, 2, top / 2, top / 2}, {5, 8, 1, top, top}, {6, 7, 1, top, top}}.lots(),
		amongOthers(nil),
		amongOthers(lotRows{{5, 7, 3, 7, 10}}.lots()),
		amongOthers(lotRows{{5, 7, 1, 3, 100}, {5, 7, 4, 5, 0}, {5, 7, 9, 2, 7}}.lots()),
		lotsOfOne(impl.MaxWeights, 5, 7, 3, 10),
		amongOthers(lotsOfOne(impl.MaxWeights, 5, 7, 2, 7)),
		amongOthers(lotsOfOne(impl.MaxWeights+1, 5, 7, 2, 7)),
		lotsOfOne(impl.MaxLots, 5, 7, top/impl.MaxLots, top/impl.MaxLots),
		manyLots(impl.MaxLots-1, 3, 5),
		manyLots(impl.MaxLots, 3, 5),
		manyLots(impl.MaxLots, top/3, top/3),
	}
}

// wrongLotNumbers are numbers that no lot has.
func wrongLotNumbers() []int {
	return []int{0, -1, -2, -lastNo, lastNo + 1, lastNo + 2, top, math.MaxInt, math.MinInt}
}

// wrongLot are lots that break one rule each of a lot alone.
func wrongLot() []impl.Lot {
	list := []impl.Lot{{}}
	for _, no := range wrongNumbers() {
		list = append(list, lotOf([5]int{no, 3, 4, 5, 6}), lotOf([5]int{2, no, 4, 5, 6}))
	}
	for _, no := range wrongLotNumbers() {
		list = append(list, lotOf([5]int{2, 3, no, 5, 6}))
	}
	for _, qty := range append(wrongAmounts(), 0, -1, -top) {
		list = append(list, lotOf([5]int{2, 3, 4, qty, 6}))
	}
	for _, cost := range append(wrongAmounts(), -1, -top) {
		list = append(list, lotOf([5]int{2, 3, 4, 5, cost}))
	}
	return list
}

// wrongLots break one rule each.
func wrongLots() [][]impl.Lot {
	lists := [][]impl.Lot{
		lotRows{{2, 1, 1, 5, 5}, {1, 1, 1, 5, 5}}.lots(),
		lotRows{{2, 1, 1, 5, 5}, {1, 2, 2, 5, 5}}.lots(),
		lotRows{{2, 3, 1, 5, 5}, {2, 2, 1, 5, 5}}.lots(),
		lotRows{{2, 3, 1, 5, 5}, {2, 2, 9, 5, 5}}.lots(),
		lotRows{{2, 3, 4, 5, 5}, {2, 3, 3, 5, 5}}.lots(),
		lotRows{{2, 3, 4, 5, 5}, {2, 3, 4, 5, 5}}.lots(),
		lotRows{{2, 3, 4, 5, 5}, {2, 3, 4, 6, 7}}.lots(),
		lotRows{{1, 1, 1, 5, 5}, {2, 3, 4, 5, 5}, {2, 3, 4, 5, 5}}.lots(),
		lotRows{{2, 3, 4, 5, 5}, {2, 3, 6, 5, 5}, {2, 3, 5, 5, 5}}.lots(),
		lotRows{{2, 3, 4, 5, 5}, {2, 9, 6, 5, 5}, {2, 3, 5, 5, 5}}.lots(),
		lotRows{{2, 3, 4, top, 5}, {2, 3, 5, 1, 5}}.lots(),
		lotRows{{2, 3, 4, 1, 5}, {2, 3, 5, top, 5}}.lots(),
		lotRows{{2, 3, 4, top / 2, 5}, {2, 3, 5, 1, 5}, {2, 3, 6, top / 2, 5}}.lots(),
		lotRows{{2, 3, 4, 5, top}, {2, 3, 5, 5, 1}}.lots(),
		lotRows{{2, 3, 4, 5, 1}, {2, 3, 5, 5, top}}.lots(),
		lotRows{{1, 3, 1, 1, 1}, {2, 3, 4, 5, top / 2}, {2, 3, 5, 5, 1}, {2, 3, 6, 5, top / 2}, {3, 3, 1, 1, 1}}.lots(),
		lotRows{{5, 7, 1, top, 0}, {5, 7, 2, top, 0}}.lots(),
		lotsOfOne(impl.MaxLots, 5, 7, top, 0),
		lotsOfOne(impl.MaxLots, 5, 7, 1, top),
		lotsOfOne(impl.MaxLots+1, 5, 7, 1, 1),
		manyLots(impl.MaxLots+1, 3, 5),
		manyLots(impl.MaxLots+2, 3, 5),
		manyLots(500, 3, 5),
		append(manyLots(impl.MaxLots, 3, 5), impl.Lot{}),
	}
	for _, wrong := range wrongLot() {
		lists = append(lists,
			[]impl.Lot{wrong},
			slices.Concat([]impl.Lot{wrong}, lotRows{{5, 7, 1, 5, 5}}.lots()),
			slices.Concat(lotRows{{1, 1, 1, 5, 5}}.lots(), []impl.Lot{wrong}, lotRows{{5, 7, 1, 5, 5}}.lots()),
			slices.Concat(lotRows{{1, 1, 1, 5, 5}, {2, 2, 9, 9, 9}}.lots(), []impl.Lot{wrong}))
	}
	return lists
}

// lotBefore says whether one lot comes ahead of another by account, then instrument, then number.
func lotBefore(a impl.Lot, b impl.Lot) bool {
	if a.Account != b.Account {
		return a.Account < b.Account
	}
	if a.Instr != b.Instr {
		return a.Instr < b.Instr
	}
	return a.No < b.No
}

func sameHolding(a impl.Lot, b impl.Lot) bool { return a.Account == b.Account && a.Instr == b.Instr }

// ownLots looks for the lots of one by a plain search.
func ownLots(list []impl.Lot, account int, instr int) []impl.Lot {
	own := []impl.Lot{}
	for _, l := range list {
		if l.Account == account && l.Instr == instr {
			own = append(own, l)
		}
	}
	return own
}

// bigTotals adds up by numbers without an end.
func bigTotals(lots []impl.Lot) (*big.Int, *big.Int) {
	qty, cost := new(big.Int), new(big.Int)
	for _, l := range lots {
		qty.Add(qty, bigOf(l.Qty))
		cost.Add(cost, bigOf(l.Cost))
	}
	return qty, cost
}

// totals wants lots that are right.
func totals(lots []impl.Lot) (int, int) {
	qty, cost := bigTotals(lots)
	return int(qty.Int64()), int(cost.Int64())
}

// lotsRight says by the words whether lots are right.
func lotsRight(list []impl.Lot) bool {
	for i, l := range list {
		if !inNumbers(l.Account) || !inNumbers(l.Instr) || l.No < 1 || l.No > 1000000000 {
			return false
		}
		if l.Qty < 1 || l.Cost < 0 || !bothAmounts(l.Qty, l.Cost) || i > 0 && !lotBefore(list[i-1], l) {
			return false
		}
		if i > 0 && sameHolding(list[i-1], l) {
			continue
		}
		qty, cost := bigTotals(ownLots(list, l.Account, l.Instr))
		if !bigIsAmount(qty) || !bigIsAmount(cost) {
			return false
		}
	}
	return len(list) <= 120
}

// wantOpen is what opening a lot must answer, by the words.
func wantOpen(list []impl.Lot, l impl.Lot) ([]impl.Lot, int) {
	if !lotsRight(list) || !lotsRight([]impl.Lot{l}) {
		return nil, impl.LotBad
	}
	ahead, behind := []impl.Lot{}, []impl.Lot{}
	for _, other := range list {
		if lotBefore(other, l) {
			ahead = append(ahead, other)
		} else {
			behind = append(behind, other)
		}
	}
	next := slices.Concat(ahead, []impl.Lot{l}, behind)
	if !lotsRight(next) {
		return list, impl.LotFull
	}
	return next, impl.LotDone
}

func checkOpen(t *testing.T, list []impl.Lot, l impl.Lot, want []impl.Lot, wantCode int) {
	t.Helper()
	if got, code := impl.LotOpen(list, l); !slices.Equal(got, want) || code != wantCode {
		t.Errorf("LotOpen(%v, %v) = %v, %d; want %v, %d", list, l, got, code, want, wantCode)
	}
}

// checkAsked asks for the lots of one, and for what they come to.
func checkAsked(t *testing.T, list []impl.Lot, account int, instr int, want []impl.Lot) {
	t.Helper()
	if got := impl.LotsOf(list, account, instr); !slices.Equal(got, want) {
		t.Errorf("LotsOf(%v, %d, %d) = %v; want %v", list, account, instr, got, want)
	}
	qty, cost := totals(want)
	if got := impl.LotsQty(list, account, instr); got != qty {
		t.Errorf("LotsQty(%v, %d, %d) = %d; want %d", list, account, instr, got, qty)
	}
	if got := impl.LotsCost(list, account, instr); got != cost {
		t.Errorf("LotsCost(%v, %d, %d) = %d; want %d", list, account, instr, got, cost)
	}
}

// lotPairs are the pairs of account and instrument of a list, those beside them, the edges and wrong ones.
func lotPairs(list []impl.Lot) [][2]int {
	pairs := [][2]int{{1, 1}, {1, impl.MaxNo}, {impl.MaxNo, 1}, {impl.MaxNo, impl.MaxNo}, {5, 7}, {7, 5}, {0, 0}, {0, 7}, {5, 0}, {-1, 1001}}
	for i := 0; i < len(list); i += 1 + len(list)/8 {
		account, instr := list[i].Account, list[i].Instr
		pairs = append(pairs, [2]int{account, instr}, [2]int{account, instr - 1}, [2]int{account, instr + 1},
			[2]int{account - 1, instr}, [2]int{account + 1, instr}, [2]int{instr, account})
	}
	return pairs
}

func TestP5Constants(t *testing.T) {
	if impl.MaxLots != 120 || impl.First != 1 || impl.Last != 2 || impl.Mean != 3 {
		t.Error("limit, ways", impl.MaxLots, impl.First, impl.Last, impl.Mean)
	}
	codes := []int{impl.LotDone, impl.LotBad, impl.LotShort, impl.LotFull}
	if !slices.Equal(codes, []int{0, 1, 2, 3}) {
		t.Error("codes", codes)
	}
}

func TestP5LotsOk(t *testing.T) {
	for _, list := range rightLots() {
		if !impl.LotsOk(list) {
			t.Errorf("%v is not right", list)
		}
	}
	for _, list := range wrongLots() {
		if impl.LotsOk(list) {
			t.Errorf("%v is right", list)
		}
	}
	for n := impl.MaxLots - 3; n < impl.MaxLots+4; n++ {
		if impl.LotsOk(manyLots(n, 1, 1)) != (n <= impl.MaxLots) || impl.LotsOk(lotsOfOne(n, 1, 1, 1, 0)) != (n <= impl.MaxLots) {
			t.Errorf("%d lots", n)
		}
	}
}

// All Qtys and all Costs of one come to just MaxAmount, or to one more, wherever the one more stands.
func TestP5LotsOkByWhatOneHas(t *testing.T) {
	for _, n := range []int{1, 2, 3, 10, impl.MaxWeights, impl.MaxLots - 6} {
		for more := range n {
			qtys := lotsOfOne(n, 5, 7, top/n, 1)
			qtys[n-1].Qty += top % n
			costs := lotsOfOne(n, 5, 7, 1, top/n)
			costs[0].Cost += top % n
			for _, list := range [][]impl.Lot{qtys, costs, amongOthers(qtys), amongOthers(costs)} {
				if !impl.LotsOk(list) {
					t.Errorf("%v is not right", list)
				}
			}
			qtys[more].Qty++
			costs[more].Cost++
			for _, list := range [][]impl.Lot{qtys, costs, amongOthers(qtys), amongOthers(costs)} {
				if impl.LotsOk(list) {
					t.Errorf("%v is right", list)
				}
			}
		}
	}
}

// A list that is too long is right again without its last one, though the room behind it holds that one still.
func TestP5RoomIsNoPartOfLots(t *testing.T) {
	long := append(manyLots(impl.MaxLots, 3, 5), lotOf([5]int{900, 7, 1, 3, 5}))
	list, last := long[:impl.MaxLots], long[impl.MaxLots]
	if !impl.LotsOk(list) {
		t.Error("the room behind a list counts")
	}
	checkAsked(t, list, last.Account, last.Instr, nil)
	checkTake(t, list, last.Account, last.Instr, 1, impl.First, list, 0, impl.LotShort)
	checkScale(t, list, last.Account, last.Instr, 1, list, impl.LotShort)
	own := lotsOfOne(6, 5, 7, 3, 10)
	checkAsked(t, own[:4], 5, 7, own[:4])
	checkTake(t, own[:4], 5, 7, 13, impl.Last, own[:4], 0, impl.LotShort)
}

func TestP5LotsOf(t *testing.T) {
	list := lotRows{{1, 2, 1, 10, 100}, {1, 2, 5, 20, 500}, {1, 3, 1, 4, 9}, {3, 2, 2, 1, 1}}.lots()
	checkAsked(t, list, 1, 2, list[:2])
	checkAsked(t, list, 1, 3, list[2:3])
	checkAsked(t, list, 3, 2, list[3:])
	for _, pair := range [][2]int{{1, 1}, {1, 4}, {2, 1}, {2, 2}, {2, 3}, {3, 1}, {3, 3}, {4, 2}, {1000, 1000}} {
		checkAsked(t, list, pair[0], pair[1], nil)
	}
	for _, no := range wrongNumbers() {
		checkAsked(t, list, no, 2, nil)
		checkAsked(t, list, 1, no, nil)
		checkAsked(t, list, no, no, nil)
		checkAsked(t, nil, no, 2, nil)
	}
	if impl.LotsQty(list, 1, 2) != 30 || impl.LotsCost(list, 1, 2) != 600 {
		t.Error("what the lots come to", impl.LotsQty(list, 1, 2), impl.LotsCost(list, 1, 2))
	}
	for _, right := range rightLots() {
		for _, pair := range lotPairs(right) {
			checkAsked(t, right, pair[0], pair[1], ownLots(right, pair[0], pair[1]))
		}
	}
}

func TestP5WrongLotsTellNothing(t *testing.T) {
	for _, list := range wrongLots() {
		for _, pair := range lotPairs(list) {
			checkAsked(t, list, pair[0], pair[1], nil)
			checkOpen(t, list, lotOf([5]int{pair[0], pair[1], 77, 1, 1}), nil, impl.LotBad)
			for _, qty := range []int{0, 1, 5, top} {
				checkScale(t, list, pair[0], pair[1], qty, nil, impl.LotBad)
				for _, way := range []int{0, impl.First, impl.Last, impl.Mean} {
					checkTake(t, list, pair[0], pair[1], qty, way, nil, 0, impl.LotBad)
				}
			}
		}
	}
}

func TestP5Open(t *testing.T) {
	list := lotRows{{2, 3, 5, 10, 100}, {2, 7, 1, 6, 60}, {4, 1, 9, 1, 0}}.lots()
	for place, rows := range [][]impl.Lot{
		lotRows{{1, 9, 9, 1, 1}, {2, 2, 9, 1, 1}, {2, 3, 1, 1, 1}, {2, 3, 4, 7, 0}, {1, 1, 1, top, top}}.lots(),
		lotRows{{2, 3, 6, 1, 1}, {2, 3, lastNo, 1, 1}, {2, 5, 1, 1, 1}, {2, 6, 9, top, top}}.lots(),
		lotRows{{2, 7, 2, 1, 1}, {2, 8, 1, 1, 1}, {3, 1, 1, 1, 1}, {4, 1, 8, 1, 1}, {4, 1, 1, 1, 0}}.lots(),
		lotRows{{4, 1, 10, 1, 1}, {4, 1, lastNo, 5, 0}, {4, 2, 1, 1, 1}, {5, 1, 1, 1, 1}, {1000, 1000, lastNo, top, top}}.lots(),
	} {
		for _, l := range rows {
			checkOpen(t, list, l, slices.Concat(list[:place], []impl.Lot{l}, list[place:]), impl.LotDone)
			checkOpen(t, nil, l, []impl.Lot{l}, impl.LotDone)
		}
	}
}

func TestP5OpenBad(t *testing.T) {
	for _, wrong := range wrongLot() {
		for _, list := range rightLots() {
			checkOpen(t, list, wrong, nil, impl.LotBad)
		}
		checkOpen(t, wrongLots()[0], wrong, nil, impl.LotBad)
	}
	for _, list := range wrongLots() {
		checkOpen(t, list, lotOf([5]int{900, 900, 1, 1, 1}), nil, impl.LotBad)
	}
}

func TestP5OpenOfOneThatIsThere(t *testing.T) {
	for _, list := range rightLots() {
		for _, l := range list {
			checkOpen(t, list, l, list, impl.LotFull)
			l.Qty, l.Cost = 1, 0
			checkOpen(t, list, l, list, impl.LotFull)
		}
	}
	// One number alike is not all three.
	list := lotRows{{2, 3, 5, 10, 100}}.lots()
	for _, row := range [][5]int{{2, 3, 6, 1, 1}, {2, 4, 5, 1, 1}, {3, 3, 5, 1, 1}} {
		checkOpen(t, list, lotOf(row), append(slices.Clone(list), lotOf(row)), impl.LotDone)
	}
}

func TestP5OpenOfTooMuch(t *testing.T) {
	list := lotRows{{2, 3, 5, top - 4, 9}, {2, 3, 7, 1, top - 20}}.lots()
	checkOpen(t, list, lotOf([5]int{2, 3, 6, 4, 0}), list, impl.LotFull)
	checkOpen(t, list, lotOf([5]int{2, 3, 9, top, 0}), list, impl.LotFull)
	checkOpen(t, list, lotOf([5]int{2, 3, 1, 1, 12}), list, impl.LotFull)
	checkOpen(t, list, lotOf([5]int{2, 3, 1, 1, top}), list, impl.LotFull)
	for _, row := range [][5]int{{2, 3, 1, 3, 11}, {2, 2, 6, top, top}, {1, 3, 6, top, top}} {
		l := lotOf(row)
		checkOpen(t, list, l, append([]impl.Lot{l}, list...), impl.LotDone)
	}
}

func TestP5OpenInAFullList(t *testing.T) {
	full := manyLots(impl.MaxLots, 3, 5)
	for _, row := range [][5]int{{1, 1, 1, 1, 1}, {5, 7, 3, 1, 1}, {50, 9, 1, 1, 1}, {1000, 1000, 1, 1, 1}} {
		l := lotOf(row)
		checkOpen(t, full, l, full, impl.LotFull)
		want, code := wantOpen(full[:impl.MaxLots-1], l)
		if code != impl.LotDone || len(want) != impl.MaxLots {
			t.Fatalf("%v has no place", l)
		}
		checkOpen(t, full[:impl.MaxLots-1], l, want, impl.LotDone)
	}
	checkOpen(t, full[1:], full[0], full, impl.LotDone)
	// Lots of one alone may be as many as all.
	one := lotsOfOne(impl.MaxLots, 5, 7, 1, 1)
	checkOpen(t, one[:impl.MaxLots-1], one[impl.MaxLots-1], one, impl.LotDone)
	checkOpen(t, one, lotOf([5]int{5, 7, 1, 1, 1}), one, impl.LotFull)
}

// smallLots are all lists of up to three lots of one or two accounts, instruments and numbers, right and wrong ones.
func smallLots() [][]impl.Lot {
	lists, from := [][]impl.Lot{{}}, 0
	for range 3 {
		until := len(lists)
		for ; from < until; from++ {
			for code := range 2 * 2 * 3 {
				l := impl.Lot{Account: 1 + code%2, Instr: 1 + code/2%2, No: code / 4, Qty: 1 + (from+code)%3, Cost: from % 5}
				lists = append(lists, append(slices.Clone(lists[from]), l))
			}
		}
	}
	return lists
}

func TestP5SmallLotsByTheWords(t *testing.T) {
	for _, list := range smallLots() {
		right := lotsRight(list)
		if impl.LotsOk(list) != right {
			t.Errorf("LotsOk(%v) is %v", list, !right)
		}
		for code := range 16 {
			l := impl.Lot{Account: 1 + code%2, Instr: code / 2 % 4, No: 1 + code/8, Qty: 2, Cost: 3}
			want := []impl.Lot{}
			if right {
				want = ownLots(list, l.Account, l.Instr)
			}
			checkAsked(t, list, l.Account, l.Instr, want)
			next, how := wantOpen(list, l)
			checkOpen(t, list, l, next, how)
		}
	}
}

func TestP5OpenByTheWords(t *testing.T) {
	for _, list := range append(rightLots(), wrongLots()[:24]...) {
		for _, pair := range lotPairs(list) {
			for _, no := range []int{0, 1, 2, 3, 4, lastNo} {
				for _, qty := range []int{1, top / 2, top} {
					l := lotOf([5]int{pair[0], pair[1], no, qty, top - qty})
					want, code := wantOpen(list, l)
					checkOpen(t, list, l, want, code)
				}
			}
		}
	}
}

// lotAnswer is one call that answers a list of lots.
type lotAnswer struct {
	name string
	call func([]impl.Lot) []impl.Lot
}

func lotAnswers() []lotAnswer {
	answers := []lotAnswer{}
	for _, pair := range [][2]int{{5, 7}, {1, 2}, {5, 6}, {7, 7}, {900, 9}, {0, 0}} {
		account, instr := pair[0], pair[1]
		answers = append(answers, lotAnswer{"of", func(list []impl.Lot) []impl.Lot { return impl.LotsOf(list, account, instr) }})
		for _, no := range []int{1, 3, lastNo, 0} {
			answers = append(answers, lotAnswer{"open", func(list []impl.Lot) []impl.Lot {
				next, _ := impl.LotOpen(list, lotOf([5]int{account, instr, no, 2, 3}))
				return next
			}})
		}
		for _, qty := range []int{1, 7, 10, 80, 120, 1000, 0} {
			answers = append(answers, lotAnswer{"scale", func(list []impl.Lot) []impl.Lot {
				next, _ := impl.LotsScale(list, account, instr, qty)
				return next
			}})
			for way := range 4 {
				answers = append(answers, lotAnswer{"take", func(list []impl.Lot) []impl.Lot {
					next, _, _ := impl.LotTake(list, account, instr, qty, way)
					return next
				}})
			}
		}
	}
	return answers
}

func TestP22LotsWriteIntoNoList(t *testing.T) {
	mark, later, own := impl.Lot{Account: spareMark}, impl.Lot{Account: -5}, impl.Lot{Account: -6}
	for _, given := range append(rightLots(), wrongLots()[:40]...) {
		for _, answer := range lotAnswers() {
			whole, list, room := roomy(given, mark)
			impl.LotsOk(list)
			impl.LotsQty(list, 5, 7)
			impl.LotsCost(list, 5, 7)
			next := answer.call(list)
			if !slices.Equal(list, given) || !allAre(room, mark) {
				t.Errorf("%s: list %v became %v, room %v", answer.name, given, list, room)
			}
			// Whoever writes on into the list turns no answer, and the other way round.
			kept := slices.Clone(next)
			fill(whole, later)
			if !slices.Equal(next, kept) {
				t.Errorf("%s of %v: the answer shares memory with the list", answer.name, given)
			}
			fill(next[:cap(next)], own)
			if !allAre(whole, later) {
				t.Errorf("%s of %v: the list shares memory with the answer", answer.name, given)
			}
		}
	}
}

// Two calls of the same tell the same, whatever was done to the first answer.
func TestP22LotsAreNewEachTime(t *testing.T) {
	for _, list := range rightLots() {
		for _, answer := range lotAnswers() {
			first := answer.call(list)
			kept := slices.Clone(first)
			fill(first[:cap(first)], impl.Lot{Account: 3})
			if again := answer.call(list); !slices.Equal(again, kept) {
				t.Errorf("%s of %v: %v became %v", answer.name, list, kept, again)
			}
		}
	}
}

func TestP22LotsAnswerAtAnyNumbers(t *testing.T) {
	odd := []int{math.MinInt, -top - 1, -1, 0, 1, 3, 4, 5, 7, top, top + 1, math.MaxInt}
	for _, list := range [][]impl.Lot{nil, amongOthers(lotsOfOne(3, 5, 7, 4, 9)), lotsOfOne(impl.MaxLots, 5, 7, 1, 1), wrongLots()[0]} {
		for _, account := range odd {
			for _, instr := range odd {
				want := []impl.Lot{}
				if lotsRight(list) {
					want = ownLots(list, account, instr)
				}
				checkAsked(t, list, account, instr, want)
				for _, x := range odd {
					checkOpenByWords(t, list, lotOf([5]int{account, instr, x, x, x}))
					checkScaleByWords(t, list, account, instr, x)
					for _, way := range odd {
						checkTakeByWords(t, list, account, instr, x, way)
					}
				}
			}
		}
	}
}

func checkOpenByWords(t *testing.T, list []impl.Lot, l impl.Lot) {
	t.Helper()
	want, code := wantOpen(list, l)
	checkOpen(t, list, l, want, code)
}
