package tests

import (
	"math"
	"math/big"
	"slices"
	"testing"

	"loop.example/g00110/impl"
)

// rows are balances or legs in short: account, instrument, amount.
type rows [][3]int

func (r rows) bals() []impl.Bal {
	list := []impl.Bal{}
	for _, row := range r {
		list = append(list, impl.Bal{Account: row[0], Instr: row[1], Amount: row[2]})
	}
	return list
}

func (r rows) legs() []impl.Leg {
	list := []impl.Leg{}
	for _, row := range r {
		list = append(list, impl.Leg{Account: row[0], Instr: row[1], Amount: row[2]})
	}
	return list
}

// manyBals are n balances that are right, two instruments an account, whose numbers are multiples of 5 up to MaxNo.
func manyBals(n int, amount int) []impl.Bal {
	list := make([]impl.Bal, n)
	for i := range list {
		list[i] = impl.Bal{Account: 5 * (i/2 + 1), Instr: 5 + i%2*995, Amount: amount}
	}
	return list
}

func rightBals() [][]impl.Bal {
	return [][]impl.Bal{
		nil,
		{},
		rows{{1, 1, 1}}.bals(),
		rows{{1, 1, -1}}.bals(),
		rows{{1, impl.MaxNo, top}}.bals(),
		rows{{impl.MaxNo, 1, -top}}.bals(),
		rows{{impl.MaxNo, impl.MaxNo, 5}}.bals(),
		rows{{1, 1, top}, {1, impl.MaxNo, -top}, {impl.MaxNo, 1, top}, {impl.MaxNo, impl.MaxNo, -top}}.bals(),
		rows{{1, 9, 4}, {2, 3, 4}}.bals(),
		rows{{2, 3, 4}, {2, 4, 4}}.bals(),
		rows{{2, 3, -7}, {2, 9, 5}, {3, 1, 5}, {3, 3, 7}, {9, 9, -5}}.bals(),
		manyBals(impl.MaxBals-1, 3),
		manyBals(impl.MaxBals, 3),
		manyBals(impl.MaxBals, -top),
		manyBals(impl.MaxBals, top),
	}
}

// wrongAmounts are numbers that are no amounts.
func wrongAmounts() []int {
	return []int{top + 1, -top - 1, 2 * top, math.MaxInt, math.MinInt}
}

// balWithWrong are three balances of which the one at that place is another one.
func balWithWrong(place int, b impl.Bal) []impl.Bal {
	list := rows{{2, 3, 4}, {5, 3, 4}, {5, 8, -4}}.bals()
	list[place] = b
	return list
}

// wrongBals break one rule each.
func wrongBals() [][]impl.Bal {
	lists := [][]impl.Bal{
		rows{{2, 1, 5}, {1, 1, 5}}.bals(),
		rows{{2, 1, 5}, {1, 9, 5}}.bals(),
		rows{{2, 4, 5}, {2, 3, 5}}.bals(),
		rows{{2, 3, 5}, {2, 3, 5}}.bals(),
		rows{{2, 3, 5}, {2, 3, -5}}.bals(),
		rows{{2, 3, 5}, {2, 3, 6}}.bals(),
		rows{{1, 1, 1}, {2, 3, 5}, {2, 3, 5}}.bals(),
		rows{{2, 3, 5}, {4, 1, 5}, {3, 1, 5}}.bals(),
		rows{{2, 3, 5}, {4, 1, 5}, {2, 3, 5}}.bals(),
		rows{{2, 3, 5}, {}}.bals(),
		{{}},
		manyBals(impl.MaxBals+1, 3),
		manyBals(impl.MaxBals+2, 3),
		append(manyBals(impl.MaxBals, 3), impl.Bal{}),
	}
	for place, right := range balWithWrong(0, impl.Bal{Account: 2, Instr: 3, Amount: 4}) {
		for _, no := range wrongNumbers() {
			lists = append(lists, rows{{no, 3, 4}}.bals(), rows{{3, no, 4}}.bals())
			lists = append(lists, balWithWrong(place, impl.Bal{Account: no, Instr: right.Instr, Amount: 4}))
			lists = append(lists, balWithWrong(place, impl.Bal{Account: right.Account, Instr: no, Amount: 4}))
		}
		for _, amount := range append(wrongAmounts(), 0) {
			lists = append(lists, rows{{3, 3, amount}}.bals())
			lists = append(lists, balWithWrong(place, impl.Bal{Account: right.Account, Instr: right.Instr, Amount: amount}))
		}
	}
	return lists
}

func inNumbers(no int) bool { return 1 <= no && no <= 1000 }

// balsRight says by the words whether balances are right.
func balsRight(list []impl.Bal) bool {
	for i, b := range list {
		if !inNumbers(b.Account) || !inNumbers(b.Instr) || b.Amount == 0 || !bigIsAmount(bigOf(b.Amount)) {
			return false
		}
		if i > 0 && (b.Account < list[i-1].Account || b.Account == list[i-1].Account && b.Instr <= list[i-1].Instr) {
			return false
		}
	}
	return len(list) <= 160
}

// amountIn looks for a balance by a plain search.
func amountIn(list []impl.Bal, account int, instr int) int {
	for _, b := range list {
		if b.Account == account && b.Instr == instr {
			return b.Amount
		}
	}
	return 0
}

// balWith is the list in which one balance is another one: those ahead of it, it, those behind it.
func balWith(list []impl.Bal, account int, instr int, amount int) []impl.Bal {
	ahead, behind := []impl.Bal{}, []impl.Bal{}
	for _, b := range list {
		if b.Account < account || b.Account == account && b.Instr < instr {
			ahead = append(ahead, b)
		} else if b.Account != account || b.Instr != instr {
			behind = append(behind, b)
		}
	}
	if amount != 0 {
		ahead = append(ahead, impl.Bal{Account: account, Instr: instr, Amount: amount})
	}
	return append(ahead, behind...)
}

// wantBalPut is what a put must answer, by the words.
func wantBalPut(list []impl.Bal, account int, instr int, amount int) ([]impl.Bal, bool) {
	if !balsRight(list) || !inNumbers(account) || !inNumbers(instr) || !bigIsAmount(bigOf(amount)) {
		return nil, false
	}
	next := balWith(list, account, instr, amount)
	if !balsRight(next) {
		return nil, false
	}
	return next, true
}

// wantBalsSum adds up by numbers without an end.
func wantBalsSum(list []impl.Bal, instr int) (int, bool) {
	sum := new(big.Int)
	for _, b := range list {
		if b.Instr == instr {
			sum.Add(sum, bigOf(b.Amount))
		}
	}
	return wantAmount(sum, balsRight(list))
}

func checkBalPut(t *testing.T, list []impl.Bal, account int, instr int, amount int, want []impl.Bal, wantOk bool) {
	t.Helper()
	if got, ok := impl.BalPut(list, account, instr, amount); !slices.Equal(got, want) || ok != wantOk {
		t.Errorf("BalPut(%v, %d, %d, %d) = %v, %v; want %v, %v", list, account, instr, amount, got, ok, want, wantOk)
	}
}

func checkBalOf(t *testing.T, list []impl.Bal, account int, instr int, want int) {
	t.Helper()
	if got := impl.BalOf(list, account, instr); got != want {
		t.Errorf("BalOf(%v, %d, %d) = %d; want %d", list, account, instr, got, want)
	}
}

func checkBalsSum(t *testing.T, list []impl.Bal, instr int, want int, wantOk bool) {
	t.Helper()
	if got, ok := impl.BalsSum(list, instr); got != want || ok != wantOk {
		t.Errorf("BalsSum(%v, %d) = %d, %v; want %d, %v", list, instr, got, ok, want, wantOk)
	}
}

// balPlaces are the places of the balances of a list, those beside them, and the edges.
func balPlaces(list []impl.Bal) [][2]int {
	places := [][2]int{{1, 1}, {1, impl.MaxNo}, {impl.MaxNo, 1}, {impl.MaxNo, impl.MaxNo}, {6, 6}, {3, 9}}
	for i := 0; i < len(list); i += 1 + len(list)/8 {
		account, instr := list[i].Account, list[i].Instr
		places = append(places, [2]int{account, instr}, [2]int{account, instr - 1}, [2]int{account, instr + 1},
			[2]int{account - 1, instr}, [2]int{account + 1, instr}, [2]int{instr, account})
	}
	return places
}

func TestP4Constants(t *testing.T) {
	if impl.MaxBals != 160 || impl.MaxLegs != 160 {
		t.Error("limits", impl.MaxBals, impl.MaxLegs)
	}
	codes := []int{impl.PostDone, impl.PostBad, impl.PostEven, impl.PostShort, impl.PostLarge, impl.PostFull}
	if !slices.Equal(codes, []int{0, 1, 2, 3, 4, 5}) {
		t.Error("codes", codes)
	}
}

func TestP4BalsOk(t *testing.T) {
	for _, list := range rightBals() {
		if !impl.BalsOk(list) {
			t.Errorf("%v is not right", list)
		}
	}
	for _, list := range wrongBals() {
		if impl.BalsOk(list) {
			t.Errorf("%v is right", list)
		}
	}
	for n := impl.MaxBals - 3; n < impl.MaxBals+4; n++ {
		if impl.BalsOk(manyBals(n, 1)) != (n <= impl.MaxBals) {
			t.Errorf("%d balances", n)
		}
	}
}

// A list that is too long is right again without its last one, though the room behind it holds that one still.
func TestP4RoomIsNoPartOfBalances(t *testing.T) {
	long := manyBals(impl.MaxBals+1, 3)
	last := long[impl.MaxBals]
	if !impl.BalsOk(long[:impl.MaxBals]) {
		t.Error("the room behind a list counts")
	}
	checkBalOf(t, long[:impl.MaxBals], last.Account, last.Instr, 0)
	checkBalPut(t, long[:impl.MaxBals-1], last.Account, last.Instr, 7, append(manyBals(impl.MaxBals-1, 3), impl.Bal{Account: last.Account, Instr: last.Instr, Amount: 7}), true)
}

func TestP4BalOf(t *testing.T) {
	list := rows{{2, 3, -7}, {2, 9, 5}, {3, 1, 6}, {9, 2, top}}.bals()
	checkBalOf(t, list, 2, 3, -7)
	checkBalOf(t, list, 2, 9, 5)
	checkBalOf(t, list, 3, 1, 6)
	checkBalOf(t, list, 9, 2, top)
	checkBalOf(t, list, 2, 1, 0)
	checkBalOf(t, list, 9, 3, 0)
	// The account and the instrument may not stand for each other.
	checkBalOf(t, list, 3, 2, 0)
	checkBalOf(t, list, 2, 2, 0)
	checkBalOf(t, nil, 2, 3, 0)
	for _, no := range wrongNumbers() {
		checkBalOf(t, list, no, 3, 0)
		checkBalOf(t, list, 2, no, 0)
		checkBalOf(t, list, no, no, 0)
	}
	for _, right := range rightBals() {
		for _, place := range balPlaces(right) {
			checkBalOf(t, right, place[0], place[1], amountIn(right, place[0], place[1]))
		}
	}
}

func TestP4WrongBalancesTellNothing(t *testing.T) {
	for _, list := range wrongBals() {
		for _, place := range balPlaces(list) {
			checkBalOf(t, list, place[0], place[1], 0)
			checkBalsSum(t, list, place[1], 0, false)
			for _, amount := range []int{0, 1, -5, top} {
				checkBalPut(t, list, place[0], place[1], amount, nil, false)
			}
		}
	}
}

func TestP4BalPut(t *testing.T) {
	list := rows{{2, 3, -7}, {4, 1, 5}}.bals()
	checkBalPut(t, list, 2, 2, 1, rows{{2, 2, 1}, {2, 3, -7}, {4, 1, 5}}.bals(), true)
	checkBalPut(t, list, 1, 9, 1, rows{{1, 9, 1}, {2, 3, -7}, {4, 1, 5}}.bals(), true)
	checkBalPut(t, list, 3, 9, -1, rows{{2, 3, -7}, {3, 9, -1}, {4, 1, 5}}.bals(), true)
	checkBalPut(t, list, 4, 2, top, rows{{2, 3, -7}, {4, 1, 5}, {4, 2, top}}.bals(), true)
	checkBalPut(t, list, 1000, 1000, -top, rows{{2, 3, -7}, {4, 1, 5}, {1000, 1000, -top}}.bals(), true)
	checkBalPut(t, list, 2, 3, 8, rows{{2, 3, 8}, {4, 1, 5}}.bals(), true)
	checkBalPut(t, list, 4, 1, 5, list, true)
	checkBalPut(t, nil, 1, 1, -3, rows{{1, 1, -3}}.bals(), true)
}

func TestP4BalPutOfNothing(t *testing.T) {
	list := rows{{2, 3, -7}, {4, 1, 5}}.bals()
	checkBalPut(t, list, 2, 3, 0, list[1:], true)
	checkBalPut(t, list, 4, 1, 0, list[:1], true)
	checkBalPut(t, list, 4, 2, 0, list, true)
	checkBalPut(t, list, 1, 1, 0, list, true)
	checkBalPut(t, nil, 1, 1, 0, nil, true)
	checkBalPut(t, list[:1], 2, 3, 0, nil, true)
}

func TestP4BalPutOfWrongNumbers(t *testing.T) {
	for _, list := range rightBals() {
		for _, no := range wrongNumbers() {
			for _, amount := range []int{0, 1, -top} {
				checkBalPut(t, list, no, 3, amount, nil, false)
				checkBalPut(t, list, 3, no, amount, nil, false)
				checkBalPut(t, list, no, no, amount, nil, false)
			}
		}
		for _, amount := range wrongAmounts() {
			for _, place := range balPlaces(list) {
				checkBalPut(t, list, place[0], place[1], amount, nil, false)
			}
		}
	}
}

func TestP4BalPutOfAFullList(t *testing.T) {
	full := manyBals(impl.MaxBals, 3)
	checkBalPut(t, full, 1, 1, 4, nil, false)
	checkBalPut(t, full, 7, 7, 4, nil, false)
	checkBalPut(t, full, 1000, 1000, 4, nil, false)
	checkBalPut(t, full, 1, 1, 0, full, true)
	want := manyBals(impl.MaxBals, 3)
	want[9].Amount = -8
	checkBalPut(t, full, full[9].Account, full[9].Instr, -8, want, true)
	checkBalPut(t, full, full[0].Account, full[0].Instr, 0, full[1:], true)
	checkBalPut(t, full[1:], full[0].Account, full[0].Instr, 3, full, true)
}

func TestP4PutIsFoundAndTurnsNoOther(t *testing.T) {
	for _, list := range rightBals() {
		for _, place := range balPlaces(list) {
			for _, amount := range []int{1, -1, 0, 17, top, -top} {
				want, wantOk := wantBalPut(list, place[0], place[1], amount)
				checkBalPut(t, list, place[0], place[1], amount, want, wantOk)
				next, ok := impl.BalPut(list, place[0], place[1], amount)
				if !ok {
					continue
				}
				checkBalOf(t, next, place[0], place[1], amount)
				for _, other := range balPlaces(list) {
					if other != place {
						checkBalOf(t, next, other[0], other[1], amountIn(list, other[0], other[1]))
					}
				}
			}
		}
	}
}

func TestP4BalsSum(t *testing.T) {
	list := rows{{2, 3, -7}, {2, 9, 5}, {3, 1, 6}, {3, 3, 10}, {4, 9, -5}, {9, 3, 1}}.bals()
	checkBalsSum(t, list, 3, 4, true)
	checkBalsSum(t, list, 9, 0, true)
	checkBalsSum(t, list, 1, 6, true)
	checkBalsSum(t, list, 2, 0, true)
	checkBalsSum(t, nil, 3, 0, true)
	for _, no := range wrongNumbers() {
		checkBalsSum(t, list, no, 0, true)
		checkBalsSum(t, nil, no, 0, true)
	}
	for _, right := range rightBals() {
		for _, place := range balPlaces(right) {
			want, ok := wantBalsSum(right, place[1])
			checkBalsSum(t, right, place[1], want, ok)
		}
	}
}

func TestP4BalsSumThatIsNoAmount(t *testing.T) {
	checkBalsSum(t, rows{{1, 3, top - 1}, {2, 3, 1}}.bals(), 3, top, true)
	checkBalsSum(t, rows{{1, 3, top}, {2, 3, 1}}.bals(), 3, 0, false)
	checkBalsSum(t, rows{{1, 3, 1 - top}, {2, 3, -1}}.bals(), 3, -top, true)
	checkBalsSum(t, rows{{1, 3, -top}, {2, 3, -1}}.bals(), 3, 0, false)
	checkBalsSum(t, rows{{1, 3, top}, {1, 4, 1}, {2, 4, 1}}.bals(), 3, top, true)
	checkBalsSum(t, manyBals(impl.MaxBals, top), 5, 0, false)
	checkBalsSum(t, manyBals(impl.MaxBals, -top), 1000, 0, false)
	// What all come to counts, and not what the first ones come to.
	checkBalsSum(t, rows{{1, 3, top}, {2, 3, top}, {3, 3, -top}, {4, 3, -5}}.bals(), 3, top-5, true)
	checkBalsSum(t, rows{{1, 3, -top}, {2, 3, -top}, {3, 3, top}, {4, 3, top}}.bals(), 3, 0, true)
}

// smallBals are all lists of up to two balances of few numbers and amounts, right and wrong ones.
func smallBals() [][]impl.Bal {
	lists, from := [][]impl.Bal{{}}, 0
	for range 2 {
		until := len(lists)
		for ; from < until; from++ {
			for code := range 3 * 3 * 3 {
				b := impl.Bal{Account: code % 3, Instr: code / 3 % 3, Amount: code/9 - 1}
				lists = append(lists, append(slices.Clone(lists[from]), b))
			}
		}
	}
	return lists
}

func TestP4SmallBalancesByTheWords(t *testing.T) {
	for _, list := range smallBals() {
		right := balsRight(list)
		if impl.BalsOk(list) != right {
			t.Errorf("BalsOk(%v) is %v", list, !right)
		}
		for account := range 4 {
			for instr := range 4 {
				want := 0
				if right {
					want = amountIn(list, account, instr)
				}
				checkBalOf(t, list, account, instr, want)
				for amount := -1; amount < 2; amount++ {
					next, ok := wantBalPut(list, account, instr, amount)
					checkBalPut(t, list, account, instr, amount, next, ok)
				}
				sum, ok := wantBalsSum(list, instr)
				checkBalsSum(t, list, instr, sum, ok)
			}
		}
	}
}

func TestP22BalancesWriteIntoNoList(t *testing.T) {
	mark, later, own := impl.Bal{Account: spareMark}, impl.Bal{Account: -5}, impl.Bal{Account: -6}
	puts := rows{{1, 1, 1}, {2, 3, 0}, {2, 3, 9}, {9, 9, -2}, {5, 5, 0}, {1000, 1000, top}, {0, 1, 1}, {1, 1, top + 1}}.bals()
	for _, given := range append(rightBals(), wrongBals()...) {
		for _, put := range puts {
			whole := append(slices.Clone(given), make([]impl.Bal, 30)...)
			list, room := whole[:len(given)], whole[len(given):]
			fill(room, mark)
			impl.BalsOk(list)
			impl.BalOf(list, put.Account, put.Instr)
			impl.BalsSum(list, put.Instr)
			next, _ := impl.BalPut(list, put.Account, put.Instr, put.Amount)
			if !slices.Equal(list, given) || !allAre(room, mark) {
				t.Errorf("put %v: list %v became %v, room %v", put, given, list, room)
			}
			kept := slices.Clone(next)
			fill(whole, later)
			if !slices.Equal(next, kept) {
				t.Errorf("put(%v, %v): the answer shares memory with the list", given, put)
			}
			fill(next[:cap(next)], own)
			if !allAre(whole, later) {
				t.Errorf("put(%v, %v): the list shares memory with the answer", given, put)
			}
		}
	}
}
