package tests

import (
	"math"
	"slices"
	"testing"

	"loop.example/g00110/impl"
)

// manyLegs are n legs, turn and turn about of 1 and of -1 of one instrument; they add up to 0 where n is even.
func manyLegs(n int) []impl.Leg {
	legs := make([]impl.Leg, n)
	for i := range legs {
		legs[i] = impl.Leg{Account: 2 + i%7, Instr: 3, Amount: 1 - i%2*2}
	}
	return legs
}

// evenLegs are legs that are right.
func evenLegs() [][]impl.Leg {
	return [][]impl.Leg{
		nil,
		{},
		rows{{1, 1, 0}}.legs(),
		rows{{1, 1, 5}, {2, 1, -5}}.legs(),
		rows{{1, 1, 5}, {1, 1, -5}}.legs(),
		rows{{1, 1000, top}, {1000, 1000, -top}}.legs(),
		rows{{1000, 1, -top}, {1, 1, top}, {1000, 1000, 0}}.legs(),
		rows{{2, 3, 4}, {9, 3, -1}, {2, 3, -2}, {4, 3, -1}}.legs(),
		rows{{2, 3, 4}, {2, 9, -5}, {9, 3, -4}, {9, 9, 5}}.legs(),
		// What all come to counts, and not what the first ones come to.
		rows{{1, 7, top}, {2, 7, top}, {3, 7, top}, {4, 7, -top}, {5, 7, -top}, {6, 7, -top}}.legs(),
		manyLegs(impl.MaxLegs),
		manyLegs(impl.MaxLegs - 2),
		append(manyLegs(impl.MaxLegs-2), impl.Leg{Account: 1, Instr: 1}),
		farLegs(impl.MaxLegs),
	}
}

// farLegs go as far off 0 as n legs can, and back.
func farLegs(n int) []impl.Leg {
	legs := make([]impl.Leg, n)
	for i := range legs {
		legs[i] = impl.Leg{Account: 1 + i, Instr: 4, Amount: top}
		if i >= n/2 {
			legs[i].Amount = -top
		}
	}
	return legs
}

// unevenLegs are right, but that they do not add up to 0.
func unevenLegs() [][]impl.Leg {
	return [][]impl.Leg{
		rows{{1, 1, 5}}.legs(),
		rows{{1, 1, -1}}.legs(),
		rows{{1, 1, 5}, {2, 1, -4}}.legs(),
		rows{{1, 1, 5}, {1, 1, -4}}.legs(),
		rows{{1, 1, 5}, {1, 1, 5}}.legs(),
		// All together they come to 0, of each instrument they do not.
		rows{{1, 1, 5}, {1, 2, -5}}.legs(),
		rows{{1, 1, 5}, {2, 2, -5}, {3, 3, 0}}.legs(),
		rows{{1, 1, 5}, {2, 1, -5}, {1, 2, 1}}.legs(),
		rows{{1, 2, 1}, {1, 1, 5}, {2, 1, -5}}.legs(),
		rows{{1, 1, 5}, {2, 1, -5}, {1, 2, 1}, {1, 3, -1}}.legs(),
		rows{{1, 7, top}, {2, 7, top}}.legs(),
		rows{{1, 7, top}, {2, 7, -top}, {2, 7, -top}}.legs(),
		manyLegs(impl.MaxLegs - 1),
		farLegs(impl.MaxLegs)[:impl.MaxLegs-1],
	}
}

// legsWithWrong are three legs of which the one at that place is another one.
func legsWithWrong(place int, leg impl.Leg) []impl.Leg {
	legs := rows{{2, 3, 4}, {5, 3, -4}, {5, 8, 0}}.legs()
	legs[place] = leg
	return legs
}

// wrongLegs have a leg that is none, or too many.
func wrongLegs() [][]impl.Leg {
	lists := [][]impl.Leg{
		{{}},
		manyLegs(impl.MaxLegs + 1),
		manyLegs(impl.MaxLegs + 2),
		farLegs(impl.MaxLegs + 2),
		make([]impl.Leg, impl.MaxLegs+1),
		append(manyLegs(impl.MaxLegs), impl.Leg{Account: 1, Instr: 1}),
	}
	for place := range 3 {
		for _, no := range wrongNumbers() {
			lists = append(lists, rows{{no, 3, 0}}.legs(), rows{{3, no, 0}}.legs())
			lists = append(lists, legsWithWrong(place, impl.Leg{Account: no, Instr: 3}), legsWithWrong(place, impl.Leg{Account: 3, Instr: no}))
		}
		for _, amount := range wrongAmounts() {
			lists = append(lists, rows{{3, 3, amount}}.legs(), rows{{3, 3, amount}, {4, 3, -amount}}.legs())
			lists = append(lists, legsWithWrong(place, impl.Leg{Account: 3, Instr: 3, Amount: amount}))
		}
	}
	return lists
}

// legsFormed says by the words whether there are not too many legs, and each is one.
func legsFormed(legs []impl.Leg) bool {
	for _, leg := range legs {
		if !inNumbers(leg.Account) || !inNumbers(leg.Instr) || !bigIsAmount(bigOf(leg.Amount)) {
			return false
		}
	}
	return len(legs) <= 160
}

// legsEven says by the words whether legs that are formed add up to 0 for each instrument.
func legsEven(legs []impl.Leg) bool {
	for _, one := range legs {
		sum := 0
		for _, leg := range legs {
			if leg.Instr == one.Instr {
				sum += leg.Amount
			}
		}
		if sum != 0 {
			return false
		}
	}
	return true
}

// wantPost is what a post must answer, by the words, a reason a step.
func wantPost(list []impl.Bal, legs []impl.Leg, short []int) ([]impl.Bal, int) {
	if !balsRight(list) || !legsFormed(legs) || len(short) > 20 {
		return nil, impl.PostBad
	}
	if !legsEven(legs) {
		return list, impl.PostEven
	}
	next := list
	for _, leg := range legs {
		amount := amountIn(next, leg.Account, leg.Instr) + leg.Amount
		if amount < -top || amount > top {
			return list, impl.PostLarge
		}
		next = balWith(next, leg.Account, leg.Instr, amount)
	}
	for _, leg := range legs {
		if amountIn(next, leg.Account, leg.Instr) < 0 && !slices.Contains(short, leg.Account) {
			return list, impl.PostShort
		}
	}
	if len(next) > 160 {
		return list, impl.PostFull
	}
	return next, impl.PostDone
}

func checkPost(t *testing.T, list []impl.Bal, legs []impl.Leg, short []int, want []impl.Bal, wantCode int) {
	t.Helper()
	if got, code := impl.BalsPost(list, legs, short); !slices.Equal(got, want) || code != wantCode {
		t.Errorf("BalsPost(%v, %v, %v) = %v, %d; want %v, %d", list, legs, short, got, code, want, wantCode)
	}
}

// checkRefused wants the list as it was.
func checkRefused(t *testing.T, list []impl.Bal, legs []impl.Leg, short []int, wantCode int) {
	t.Helper()
	checkPost(t, list, legs, short, list, wantCode)
}

// shorts are lists of those that may be below 0, of which not one is too long.
func shorts() [][]int {
	odd := []int{0, -1, 0, -1, math.MinInt, math.MaxInt, impl.MaxNo + 1}
	return [][]int{nil, {}, {1}, {2}, {9}, {1, 2}, {2, 1, 2}, {1000}, odd, append(odd, 2), repeated(impl.MaxAccounts, 1), append(repeated(impl.MaxAccounts-1, 8), 2)}
}

func TestP4LegsOk(t *testing.T) {
	for _, legs := range evenLegs() {
		if !impl.LegsOk(legs) {
			t.Errorf("%v are not right", legs)
		}
	}
	for _, legs := range append(unevenLegs(), wrongLegs()...) {
		if impl.LegsOk(legs) {
			t.Errorf("%v are right", legs)
		}
	}
	for n := impl.MaxLegs - 4; n < impl.MaxLegs+4; n += 2 {
		if impl.LegsOk(manyLegs(n)) != (n <= impl.MaxLegs) {
			t.Errorf("%d legs", n)
		}
	}
	long := append(manyLegs(impl.MaxLegs), impl.Leg{})
	if !impl.LegsOk(long[:impl.MaxLegs]) {
		t.Error("the room behind the legs counts")
	}
}

func TestP4Post(t *testing.T) {
	list := rows{{2, 3, 7}, {4, 3, -7}}.bals()
	checkPost(t, nil, nil, nil, nil, impl.PostDone)
	checkPost(t, list, nil, nil, list, impl.PostDone)
	checkPost(t, nil, rows{{1, 7, -5}, {2, 7, 5}}.legs(), []int{1}, rows{{1, 7, -5}, {2, 7, 5}}.bals(), impl.PostDone)
	checkPost(t, nil, rows{{2, 7, 5}, {1, 7, -5}}.legs(), []int{1}, rows{{1, 7, -5}, {2, 7, 5}}.bals(), impl.PostDone)
	checkPost(t, list, rows{{2, 3, -1}, {3, 3, 1}}.legs(), nil, rows{{2, 3, 6}, {3, 3, 1}, {4, 3, -7}}.bals(), impl.PostDone)
	checkPost(t, list, rows{{4, 3, -2}, {2, 3, 2}}.legs(), []int{4}, rows{{2, 3, 9}, {4, 3, -9}}.bals(), impl.PostDone)
	checkPost(t, list, rows{{9, 5, 6}, {2, 1, -4}, {8, 5, -6}, {9, 1, 4}}.legs(), []int{8, 2},
		rows{{2, 1, -4}, {2, 3, 7}, {4, 3, -7}, {8, 5, -6}, {9, 1, 4}, {9, 5, 6}}.bals(), impl.PostDone)
	checkPost(t, nil, rows{{1, 1, top}, {1000, 1, -top}, {1, 1000, -top}, {1000, 1000, top}}.legs(), []int{1, 1000},
		rows{{1, 1, top}, {1, 1000, -top}, {1000, 1, -top}, {1000, 1000, top}}.bals(), impl.PostDone)
}

func TestP4PostThatLeavesNothing(t *testing.T) {
	list := rows{{2, 3, 7}, {3, 3, 1}, {4, 3, -7}}.bals()
	checkPost(t, list, rows{{2, 3, -7}, {4, 3, 7}}.legs(), nil, list[1:2], impl.PostDone)
	checkPost(t, list, rows{{2, 3, -7}, {9, 3, 7}}.legs(), nil, rows{{3, 3, 1}, {4, 3, -7}, {9, 3, 7}}.bals(), impl.PostDone)
	checkPost(t, rows{{2, 3, 7}, {4, 3, -7}}.bals(), rows{{4, 3, 7}, {2, 3, -7}}.legs(), nil, nil, impl.PostDone)
	checkPost(t, rows{{2, 3, top}, {4, 3, -top}}.bals(), rows{{4, 3, top}, {2, 3, -top}}.legs(), nil, nil, impl.PostDone)
	// What is gone between two legs and comes back is there.
	checkPost(t, list, rows{{2, 3, -7}, {2, 3, 7}}.legs(), nil, list, impl.PostDone)
	checkPost(t, nil, rows{{2, 3, 7}, {2, 3, -7}}.legs(), nil, nil, impl.PostDone)
}

func TestP4PostOfALegOfNothing(t *testing.T) {
	list := rows{{2, 3, 7}, {4, 3, -7}}.bals()
	checkPost(t, nil, rows{{1, 1, 0}}.legs(), nil, nil, impl.PostDone)
	checkPost(t, list, rows{{2, 3, 0}}.legs(), nil, list, impl.PostDone)
	checkPost(t, list, rows{{9, 9, 0}, {1, 1, 0}}.legs(), nil, list, impl.PostDone)
	// It names the account all the same.
	checkRefused(t, list, rows{{4, 3, 0}}.legs(), nil, impl.PostShort)
	checkPost(t, list, rows{{4, 3, 0}}.legs(), []int{4}, list, impl.PostDone)
}

func TestP4PostOfSeveralLegsOfOne(t *testing.T) {
	list := rows{{2, 3, 7}, {4, 3, -7}}.bals()
	checkPost(t, list, rows{{2, 3, -3}, {9, 3, 5}, {2, 3, -3}, {9, 3, 1}}.legs(), nil, rows{{2, 3, 1}, {4, 3, -7}, {9, 3, 6}}.bals(), impl.PostDone)
	checkRefused(t, list, rows{{2, 3, -4}, {9, 3, 5}, {2, 3, -4}, {9, 3, 3}}.legs(), nil, impl.PostShort)
	// Below 0 between two legs is not below 0 behind all of them.
	checkPost(t, list, rows{{2, 3, -9}, {9, 3, 9}, {9, 3, -3}, {2, 3, 3}}.legs(), nil, rows{{2, 3, 1}, {4, 3, -7}, {9, 3, 6}}.bals(), impl.PostDone)
	checkPost(t, nil, rows{{2, 3, -9}, {2, 3, 9}}.legs(), nil, nil, impl.PostDone)
	// 160 legs of one and another.
	checkPost(t, nil, manyLegs(impl.MaxLegs), []int{2, 3, 4, 5, 6, 7, 8}, manyPosted(), impl.PostDone)
}

// manyPosted is what all of MaxLegs of manyLegs leave of nothing.
func manyPosted() []impl.Bal {
	list := []impl.Bal{}
	for _, leg := range manyLegs(impl.MaxLegs) {
		list = balWith(list, leg.Account, leg.Instr, amountIn(list, leg.Account, leg.Instr)+leg.Amount)
	}
	return list
}

func TestP4PostBad(t *testing.T) {
	right := rows{{2, 3, 7}, {4, 3, -7}}.bals()
	for _, list := range wrongBals() {
		for _, legs := range [][]impl.Leg{nil, rows{{2, 3, 1}, {5, 3, -1}}.legs(), rows{{2, 3, 1}}.legs()} {
			checkPost(t, list, legs, nil, nil, impl.PostBad)
			checkPost(t, list, legs, []int{5}, nil, impl.PostBad)
		}
	}
	for _, legs := range wrongLegs() {
		checkPost(t, nil, legs, nil, nil, impl.PostBad)
		checkPost(t, right, legs, []int{4}, nil, impl.PostBad)
	}
	legs := rows{{2, 3, -1}, {4, 3, 1}}.legs()
	posted := rows{{2, 3, 6}, {4, 3, -6}}.bals()
	checkPost(t, right, legs, append(repeated(impl.MaxAccounts-1, 9), 4), posted, impl.PostDone)
	checkPost(t, right, legs, repeated(impl.MaxAccounts+1, 4), nil, impl.PostBad)
	checkPost(t, nil, nil, repeated(impl.MaxAccounts+1, 0), nil, impl.PostBad)
	checkPost(t, right, legs, make([]int, 500), nil, impl.PostBad)
	checkPost(t, right, legs, repeated(impl.MaxAccounts+1, 4)[:impl.MaxAccounts], posted, impl.PostDone)
}

func TestP4PostEven(t *testing.T) {
	for _, legs := range unevenLegs() {
		for _, list := range rightBals() {
			checkRefused(t, list, legs, nil, impl.PostEven)
			checkRefused(t, list, legs, []int{1, 2, 3}, impl.PostEven)
		}
	}
}

func TestP4PostLarge(t *testing.T) {
	list := rows{{1, 3, -top}, {2, 3, top}}.bals()
	both := []int{1, 2}
	checkRefused(t, list, rows{{2, 3, 1}, {1, 3, -1}}.legs(), both, impl.PostLarge)
	checkRefused(t, list, rows{{1, 3, -1}, {2, 3, 1}}.legs(), both, impl.PostLarge)
	checkRefused(t, list, rows{{1, 3, -top}, {9, 3, top}}.legs(), both, impl.PostLarge)
	checkRefused(t, list, rows{{9, 3, -top}, {2, 3, top}}.legs(), []int{9}, impl.PostLarge)
	checkRefused(t, nil, rows{{1, 3, top}, {1, 3, top}, {2, 3, -top}, {4, 3, -top}}.legs(), []int{2, 4}, impl.PostLarge)
	checkRefused(t, nil, rows{{1, 3, -top}, {1, 3, -1}, {2, 3, top}, {4, 3, 1}}.legs(), []int{1}, impl.PostLarge)
	// No amount between two legs is refused, though it is one behind all of them; in another order none is in between.
	checkRefused(t, list, rows{{2, 3, 1}, {2, 3, -1}}.legs(), both, impl.PostLarge)
	checkPost(t, list, rows{{2, 3, -1}, {2, 3, 1}}.legs(), both, list, impl.PostDone)
	checkRefused(t, list, rows{{9, 3, 1}, {1, 3, -1}, {9, 3, -1}, {1, 3, 1}}.legs(), both, impl.PostLarge)
	checkPost(t, list, rows{{9, 3, -1}, {1, 3, 1}, {1, 3, -1}, {9, 3, 1}}.legs(), both, list, impl.PostDone)
	// Just MaxAmount is one.
	near := rows{{1, 3, 1 - top}, {2, 3, top - 1}}.bals()
	checkPost(t, near, rows{{2, 3, 1}, {1, 3, -1}}.legs(), []int{1}, list, impl.PostDone)
	checkPost(t, nil, farLegs(4), []int{3, 4}, rows{{1, 4, top}, {2, 4, top}, {3, 4, -top}, {4, 4, -top}}.bals(), impl.PostDone)
}

func TestP4PostShort(t *testing.T) {
	list := rows{{1, 3, -9}, {1, 5, 4}, {2, 3, 5}, {2, 5, -4}, {6, 3, 4}}.bals()
	checkRefused(t, list, rows{{2, 3, -6}, {6, 3, 6}}.legs(), nil, impl.PostShort)
	checkRefused(t, list, rows{{6, 3, 6}, {2, 3, -6}}.legs(), []int{1, 6}, impl.PostShort)
	checkPost(t, list, rows{{2, 3, -5}, {6, 3, 5}}.legs(), nil, rows{{1, 3, -9}, {1, 5, 4}, {2, 5, -4}, {6, 3, 9}}.bals(), impl.PostDone)
	checkPost(t, list, rows{{2, 3, -6}, {6, 3, 6}}.legs(), []int{2}, rows{{1, 3, -9}, {1, 5, 4}, {2, 3, -1}, {2, 5, -4}, {6, 3, 10}}.bals(), impl.PostDone)
	// One that was below 0, gets some and is below 0 still.
	checkRefused(t, list, rows{{1, 3, 8}, {6, 3, -4}, {2, 3, -4}}.legs(), nil, impl.PostShort)
	checkPost(t, list, rows{{1, 3, 9}, {6, 3, -4}, {2, 3, -5}}.legs(), nil, rows{{1, 5, 4}, {2, 5, -4}}.bals(), impl.PostDone)
	// What no leg names may be below 0, of another account and of another instrument of the same.
	checkPost(t, list, rows{{1, 5, -4}, {2, 3, -1}, {2, 5, 4}, {6, 3, 1}}.legs(), nil, rows{{1, 3, -9}, {2, 3, 4}, {6, 3, 5}}.bals(), impl.PostDone)
	// A number in short that is the instrument's and not the account's is of no use.
	checkRefused(t, list, rows{{2, 3, -6}, {6, 3, 6}}.legs(), []int{3}, impl.PostShort)
}

func TestP4PostFull(t *testing.T) {
	full := manyBals(impl.MaxBals, 3)
	first, last := full[0], full[impl.MaxBals-1]
	checkRefused(t, full, rows{{first.Account, first.Instr, -1}, {7, first.Instr, 1}}.legs(), nil, impl.PostFull)
	checkRefused(t, full, rows{{7, 7, -1}, {9, 7, 1}}.legs(), []int{7}, impl.PostFull)
	checkRefused(t, full[1:], rows{{7, 7, -1}, {9, 7, 1}}.legs(), []int{7}, impl.PostFull)
	checkPost(t, full[2:], rows{{1, 7, -1}, {2, 7, 1}}.legs(), []int{1}, append(rows{{1, 7, -1}, {2, 7, 1}}.bals(), full[2:]...), impl.PostDone)
	checkPost(t, full, rows{{7, 7, 0}}.legs(), nil, full, impl.PostDone)
	// One goes and another one comes, whichever is first.
	want := append(slices.Clone(full[:impl.MaxBals-1]), impl.Bal{Account: 900, Instr: last.Instr, Amount: 3})
	checkPost(t, full, rows{{last.Account, last.Instr, -3}, {900, last.Instr, 3}}.legs(), nil, want, impl.PostDone)
	checkPost(t, full, rows{{900, last.Instr, 3}, {last.Account, last.Instr, -3}}.legs(), nil, want, impl.PostDone)
	// Too many between two legs is not too many behind all of them.
	checkPost(t, full, rows{{900, 7, -3}, {901, 7, 3}, {901, 7, -3}, {900, 7, 3}}.legs(), nil, full, impl.PostDone)
	checkPost(t, nil, farLegs(impl.MaxLegs)[70:90], []int{81, 82, 83, 84, 85, 86, 87, 88, 89, 90}, wantFar(), impl.PostDone)
}

func wantFar() []impl.Bal {
	list := []impl.Bal{}
	for _, leg := range farLegs(impl.MaxLegs)[70:90] {
		list = append(list, impl.Bal{Account: leg.Account, Instr: leg.Instr, Amount: leg.Amount})
	}
	return list
}

// Where several reasons apply, the first that the chapter names counts, wherever in the legs it stands.
func TestP4PostFirstReason(t *testing.T) {
	list := rows{{1, 3, -top}, {2, 3, top}}.bals()
	full := manyBals(impl.MaxBals, top)
	long := repeated(impl.MaxAccounts+1, 1)
	uneven := rows{{2, 3, 1}, {9, 3, -2}}.legs()
	large := rows{{9, 3, -1}, {2, 3, 1}}.legs()
	checkPost(t, list, append(slices.Clone(uneven), impl.Leg{Instr: 3}), nil, nil, impl.PostBad)
	checkPost(t, list, append(slices.Clone(large), impl.Leg{Account: 1, Instr: 3, Amount: top + 1}), nil, nil, impl.PostBad)
	checkPost(t, list, uneven, long, nil, impl.PostBad)
	checkPost(t, list, large, long, nil, impl.PostBad)
	checkPost(t, list, rows{{9, 3, -1}, {8, 3, 1}}.legs(), long, nil, impl.PostBad)
	checkRefused(t, list, uneven, nil, impl.PostEven)
	checkRefused(t, list, append(slices.Clone(large), impl.Leg{Account: 7, Instr: 8, Amount: -1}), nil, impl.PostEven)
	checkRefused(t, full, rows{{5, 5, 1}, {1, 5, -2}}.legs(), nil, impl.PostEven)
	checkRefused(t, full, rows{{1, 5, -1}}.legs(), nil, impl.PostEven)
	// Account 9 lacks one ahead of the leg that makes too much.
	checkRefused(t, list, large, nil, impl.PostLarge)
	checkRefused(t, full, rows{{1, 5, -1}, {5, 5, 1}}.legs(), nil, impl.PostLarge)
	checkRefused(t, full, rows{{1, 5, -1}, {5, 5, 1}}.legs(), []int{1}, impl.PostLarge)
	checkRefused(t, full, rows{{1, 7, -1}, {2, 7, 1}}.legs(), nil, impl.PostShort)
	checkRefused(t, full, rows{{1, 7, -1}, {2, 7, 1}}.legs(), []int{2}, impl.PostShort)
	checkRefused(t, full, rows{{1, 7, -1}, {2, 7, 1}}.legs(), []int{1}, impl.PostFull)
}

// smallLegs are all rows of up to three legs of two accounts, two instruments and few amounts, even ones and others.
func smallLegs() [][]impl.Leg {
	lists, from := [][]impl.Leg{{}}, 0
	for range 3 {
		until := len(lists)
		for ; from < until; from++ {
			for code := range 2 * 2 * 5 {
				leg := impl.Leg{Account: 1 + code%2, Instr: 1 + code/2%2, Amount: code/4 - 2}
				lists = append(lists, append(slices.Clone(lists[from]), leg))
			}
		}
	}
	return lists
}

func TestP4SmallLegsByTheWords(t *testing.T) {
	lists := [][]impl.Bal{
		nil,
		rows{{1, 1, 1}}.bals(),
		rows{{1, 1, -1}, {2, 1, 1}}.bals(),
		rows{{1, 1, 2}, {1, 2, -1}, {2, 2, 1}}.bals(),
		rows{{1, 2, top - 1}, {2, 2, 1 - top}}.bals(),
		rows{{1, 1, top}, {2, 1, -top}, {2, 2, 1}}.bals(),
		append(rows{{1, 1, 1}}.bals(), manyBals(impl.MaxBals-1, 1)...),
	}
	for _, legs := range smallLegs() {
		if impl.LegsOk(legs) != legsEven(legs) {
			t.Errorf("LegsOk(%v) is %v", legs, !legsEven(legs))
		}
		for _, list := range lists {
			for _, short := range [][]int{nil, {1}, {1, 2}} {
				want, code := wantPost(list, legs, short)
				checkPost(t, list, legs, short, want, code)
			}
		}
	}
}

func TestP4AllBalancesAndLegsByTheWords(t *testing.T) {
	allLegs := append(append(evenLegs(), unevenLegs()...), wrongLegs()...)
	for _, list := range append(rightBals(), wrongBals()...) {
		for _, legs := range allLegs {
			for _, short := range [][]int{nil, {1, 2, 9}, {1000}} {
				want, code := wantPost(list, legs, short)
				checkPost(t, list, legs, short, want, code)
			}
		}
	}
	for _, list := range rightBals() {
		for _, legs := range evenLegs() {
			for _, short := range shorts() {
				want, code := wantPost(list, legs, short)
				checkPost(t, list, legs, short, want, code)
			}
		}
	}
}

// spreadLegs are pairs of legs that add up to 0, the same in each run: small ones, or as far as amounts go.
func spreadLegs(seed int, pairs int) []impl.Leg {
	numbers := wideSpread(seed + 4*pairs)[seed:]
	legs := []impl.Leg{}
	for i := range pairs {
		amount := numbers[4*i] % 20
		if seed%5 == 0 {
			amount = numbers[4*i]
		}
		instr := 1 + numbers[4*i+1]%3
		legs = append(legs, impl.Leg{Account: 1 + numbers[4*i+2]%6, Instr: instr, Amount: amount})
		legs = append(legs, impl.Leg{Account: 1 + numbers[4*i+3]%6, Instr: instr, Amount: -amount})
	}
	return legs
}

// What is posted turns each balance by just what its legs give, and leaves all of an instrument together as they were.
func TestP4SpreadOfLegs(t *testing.T) {
	list, done := []impl.Bal{}, 0
	short := []int{1, 2, 3}
	for seed := range 400 {
		legs := spreadLegs(seed, 1+seed%12)
		want, wantCode := wantPost(list, legs, short)
		checkPost(t, list, legs, short, want, wantCode)
		next, code := impl.BalsPost(list, legs, short)
		if code != impl.PostDone {
			continue
		}
		done++
		checkTurned(t, list, legs, next)
		checkOtherOrders(t, list, legs, short, next)
		list = next
	}
	if done < 40 || done == 400 {
		t.Errorf("%d posts of 400 are done, which is no spread", done)
	}
}

func checkTurned(t *testing.T, list []impl.Bal, legs []impl.Leg, next []impl.Bal) {
	t.Helper()
	for instr := 1; instr <= 3; instr++ {
		before, _ := impl.BalsSum(list, instr)
		if behind, ok := impl.BalsSum(next, instr); !ok || behind != before {
			t.Errorf("instrument %d: %d became %d by %v", instr, before, behind, legs)
		}
		for account := 1; account <= 6; account++ {
			given := 0
			for _, leg := range legs {
				if leg.Account == account && leg.Instr == instr {
					given += leg.Amount
				}
			}
			checkBalOf(t, next, account, instr, impl.BalOf(list, account, instr)+given)
		}
	}
	if !impl.BalsOk(next) {
		t.Errorf("%v is not right", next)
	}
}

// checkOtherOrders posts the same legs in other orders, of which only one that makes a balance too large may be refused.
func checkOtherOrders(t *testing.T, list []impl.Bal, legs []impl.Leg, short []int, want []impl.Bal) {
	t.Helper()
	for turn := range len(legs) {
		other := append(slices.Clone(legs[turn:]), legs[:turn]...)
		if turn%2 == 1 {
			slices.Reverse(other)
		}
		if _, code := wantPost(list, other, short); code == impl.PostLarge {
			checkRefused(t, list, other, short, impl.PostLarge)
			continue
		}
		checkPost(t, list, other, short, want, impl.PostDone)
	}
}

// roomy is a copy of a list with room behind it that is marked all over.
func roomy[R any](given []R, mark R) ([]R, []R, []R) {
	whole := append(slices.Clone(given), make([]R, 30)...)
	fill(whole[len(given):], mark)
	return whole, whole[:len(given)], whole[len(given):]
}

func TestP22PostWritesIntoNoList(t *testing.T) {
	someBals := append(rightBals(), wrongBals()[:14]...)
	someLegs := append(append(evenLegs(), unevenLegs()...), wrongLegs()[:12]...)
	for _, list := range someBals {
		for _, legs := range someLegs {
			for _, short := range [][]int{nil, {1, 2, 9}, repeated(impl.MaxAccounts, 1), repeated(impl.MaxAccounts+1, 1)} {
				checkPostWrites(t, list, legs, short)
			}
		}
	}
}

func checkPostWrites(t *testing.T, givenList []impl.Bal, givenLegs []impl.Leg, givenShort []int) {
	t.Helper()
	balMark, legMark := impl.Bal{Account: spareMark}, impl.Leg{Account: spareMark}
	wholeList, list, listRoom := roomy(givenList, balMark)
	wholeLegs, legs, legsRoom := roomy(givenLegs, legMark)
	wholeShort, short, shortRoom := roomy(givenShort, spareMark)
	impl.LegsOk(legs)
	next, code := impl.BalsPost(list, legs, short)
	if !slices.Equal(list, givenList) || !slices.Equal(legs, givenLegs) || !slices.Equal(short, givenShort) {
		t.Errorf("post %v, %v, %v: became %v, %v, %v", givenList, givenLegs, givenShort, list, legs, short)
	}
	if !allAre(listRoom, balMark) || !allAre(legsRoom, legMark) || !allAre(shortRoom, spareMark) {
		t.Errorf("post %v, %v, %v: the room became %v, %v, %v", givenList, givenLegs, givenShort, listRoom, legsRoom, shortRoom)
	}
	// Whoever writes on into what was given turns no answer, and the other way round.
	kept := slices.Clone(next)
	fill(wholeList, impl.Bal{Account: -5})
	fill(wholeLegs, impl.Leg{Account: -5})
	fill(wholeShort, -5)
	if !slices.Equal(next, kept) {
		t.Errorf("post %v, %v, %v: the answer beside %d shares memory", givenList, givenLegs, givenShort, code)
	}
	fill(next[:cap(next)], impl.Bal{Account: -6})
	if !allAre(wholeList, impl.Bal{Account: -5}) {
		t.Errorf("post %v, %v, %v: the list shares memory with the answer beside %d", givenList, givenLegs, givenShort, code)
	}
}

// Two calls of the same tell the same, in the same order, whatever was done to the first answer.
func TestP22PostsAreNewEachTime(t *testing.T) {
	for _, list := range rightBals() {
		for _, legs := range append(evenLegs(), unevenLegs()...) {
			want, code := wantPost(list, legs, []int{1, 1000})
			for range 3 {
				got, _ := impl.BalsPost(list, legs, []int{1, 1000})
				fill(got[:cap(got)], impl.Bal{Account: 3})
				checkPost(t, list, legs, []int{1, 1000}, want, code)
			}
		}
	}
}
