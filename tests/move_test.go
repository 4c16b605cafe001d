package tests

import (
	"slices"
	"testing"

	"loop.example/g00110/impl"
)

// moved is someBooks behind a move of paper 7 from account 2 to another one.
func moved(to int, left int, leftLots lotRows, has int, toLots lotRows) impl.Books {
	b := withBal(withBal(someBooks(), 2, 7, left, leftLots), to, 7, has, toLots)
	b.Lot = 10
	return b
}

// sevenTaken is what is left of the 20 pieces of paper 7 that account 2 has in someBooks, and what was taken cost.
type sevenTaken struct {
	qty, way int
	left     lotRows
	cost     int
}

func sevensTaken() []sevenTaken {
	return []sevenTaken{
		{1, impl.First, lotRows{{2, 7, 1, 9, 91}, {2, 7, 4, 3, 50}, {2, 7, 9, 7, 20}}, 10},
		{10, impl.First, lotRows{{2, 7, 4, 3, 50}, {2, 7, 9, 7, 20}}, 101},
		{12, impl.First, lotRows{{2, 7, 4, 1, 17}, {2, 7, 9, 7, 20}}, 134},
		{19, impl.First, lotRows{{2, 7, 9, 1, 3}}, 168},
		{20, impl.First, nil, 171},
		{1, impl.Last, lotRows{{2, 7, 1, 10, 101}, {2, 7, 4, 3, 50}, {2, 7, 9, 6, 18}}, 2},
		{7, impl.Last, lotRows{{2, 7, 1, 10, 101}, {2, 7, 4, 3, 50}}, 20},
		{11, impl.Last, lotRows{{2, 7, 1, 9, 91}}, 80},
		{20, impl.Last, nil, 171},
		{1, impl.Mean, lotRows{{2, 7, 1, 19, 163}}, 8},
		{10, impl.Mean, lotRows{{2, 7, 1, 10, 86}}, 85},
		{20, impl.Mean, nil, 171},
	}
}

func TestP6MoveOfAPaper(t *testing.T) {
	for _, c := range sevensTaken() {
		// To a holder that has some, and to one that has none.
		checkCall(t, someBooks(), moveCall(2, 3, 7, c.qty, c.way),
			moved(3, 20-c.qty, c.left, 5+c.qty, lotRows{{3, 7, 3, 5, 60}, {3, 7, 10, c.qty, c.cost}}), c.cost, impl.BkDone)
		checkCall(t, someBooks(), moveCall(2, 6, 7, c.qty, c.way),
			moved(6, 20-c.qty, c.left, c.qty, lotRows{{6, 7, 10, c.qty, c.cost}}), c.cost, impl.BkDone)
	}
	for _, way := range threeWays() {
		checkRefusal(t, someBooks(), moveCall(2, 3, 7, 21, way), impl.BkShort)
		checkRefusal(t, someBooks(), moveCall(6, 3, 7, 1, way), impl.BkShort)
		// What costs nothing is moved for nothing.
		want := withBal(withBal(someBooks(), 2, 9, 1, lotRows{{2, 9, 2, 1, 0}}), 6, 9, 3, lotRows{{6, 9, 10, 3, 0}})
		want.Lot = 10
		checkCall(t, someBooks(), moveCall(2, 6, 9, 3, way), want, 0, impl.BkDone)
	}
}

// A paper that goes there and back is in one new lot, and cost what it cost.
func TestP6MoveThereAndBack(t *testing.T) {
	for _, way := range threeWays() {
		b, cost, code := impl.BookMove(someBooks(), 2, 6, 7, 20, way)
		if code != impl.BkDone || cost != 171 {
			t.Errorf("there by way %d: %v, %d, %d", way, b, cost, code)
		}
		want := withBal(someBooks(), 2, 7, 20, lotRows{{2, 7, 11, 20, 171}})
		want.Lot = 11
		checkCall(t, b, moveCall(6, 2, 7, 20, way), want, 171, impl.BkDone)
	}
}

func TestP6MoveOfACash(t *testing.T) {
	b := someBooks()
	for _, way := range threeWays() {
		checkCall(t, b, moveCall(2, 3, 5, 1, way), withBal(withBal(b, 2, 5, 299, nil), 3, 5, 151, nil), 0, impl.BkDone)
		checkCall(t, b, moveCall(2, 3, 5, 300, way), withBal(withBal(b, 2, 5, 0, nil), 3, 5, 450, nil), 0, impl.BkDone)
		checkCall(t, b, moveCall(6, 2, 6, 30, way), withBal(withBal(b, 6, 6, 0, nil), 2, 6, 30, nil), 0, impl.BkDone)
		checkRefusal(t, b, moveCall(2, 3, 5, 301, way), impl.BkShort)
		checkRefusal(t, b, moveCall(6, 2, 6, 31, way), impl.BkShort)
		checkRefusal(t, b, moveCall(6, 2, 5, 1, way), impl.BkShort)
		checkRefusal(t, b, moveCall(6, 2, 6, top, way), impl.BkShort)
	}
	// A way that is none counts also where no lots are taken.
	checkBad(t, b, moveCall(2, 3, 5, 1, 0))
	checkBad(t, b, moveCall(2, 3, 5, 1, 4))
}

func TestP6MoveOfWhatIsNotThere(t *testing.T) {
	for _, c := range []bookCall{
		moveCall(7, 2, 7, 1, 1), moveCall(2, 7, 7, 1, 2), moveCall(2, 3, 8, 1, 3), moveCall(1000, 2, 5, 1, 1), moveCall(2, 1000, 5, 1, 1), moveCall(2, 3, 1, 1, 1),
		// What is of a wrong kind, or one, is told only where all are there.
		moveCall(7, 7, 7, 1, 1), moveCall(2, 2, 8, 1, 1), moveCall(1, 7, 7, 1, 1), moveCall(7, 1, 7, 1, 1), moveCall(1, 4, 8, 1, 1), moveCall(2, 7, 7, 21, 1),
	} {
		checkRefusal(t, someBooks(), c, impl.BkNone)
		checkRefusal(t, impl.BooksNew(), c, impl.BkNone)
	}
}

func TestP6MoveOfWrongKinds(t *testing.T) {
	last := someBooks()
	last.Lot = lastNo
	for _, c := range []bookCall{
		moveCall(1, 2, 7, 1, 1), moveCall(4, 2, 5, 1, 2), moveCall(5, 2, 7, 1, 3), moveCall(2, 1, 7, 1, 1), moveCall(2, 4, 5, 1, 2), moveCall(2, 5, 7, 1, 3),
		moveCall(2, 2, 7, 1, 1), moveCall(6, 6, 6, 1, 1), moveCall(1, 1, 7, 1, 1), moveCall(4, 1, 7, 1, 1), moveCall(1, 8, 7, 1, 1),
		// They come ahead of what is short.
		moveCall(2, 2, 7, 21, 1), moveCall(3, 4, 7, top, 1), moveCall(1, 2, 9, top, 1),
	} {
		checkRefusal(t, someBooks(), c, impl.BkKind)
		checkRefusal(t, last, c, impl.BkKind)
	}
}

func TestP6MoveThatIsTooLarge(t *testing.T) {
	far := farBooks()
	for _, way := range threeWays() {
		checkRefusal(t, far, moveCall(1000, 1, 1, 1, way), impl.BkLarge)
		checkRefusal(t, far, moveCall(4, 1, 1, 1, way), impl.BkLarge)
		checkRefusal(t, far, moveCall(1, 1000, 1000, 1, way), impl.BkLarge)
		// BalsPost names what is too large ahead of what is short.
		checkRefusal(t, far, moveCall(1000, 1, 1, 2, way), impl.BkLarge)
		checkRefusal(t, far, moveCall(4, 1, 1, top, way), impl.BkLarge)
		checkRefusal(t, far, moveCall(4, 1000, 1000, 1, way), impl.BkLarge)
	}
	last := far
	last.Lot = lastNo
	checkRefusal(t, last, moveCall(1000, 1, 1, 1, impl.First), impl.BkLarge)
	checkRefusal(t, last, moveCall(1000, 4, 1, 2, impl.First), impl.BkLarge)
	// Just as much as there can be is not too large.
	want := withBal(withBal(far, 1000, 1000, 0, nil), 4, 1000, top, nil)
	checkCall(t, far, moveCall(1000, 4, 1000, top, impl.First), want, 0, impl.BkDone)
}

// The balances are turned, the lots are taken, and the last part is refused: nothing is turned.
func TestP6MoveWhereLotsAreFull(t *testing.T) {
	full := fullBooks()
	for _, way := range threeWays() {
		checkRefusal(t, full, moveCall(19, 1, 6, 9, way), impl.BkFull)
		checkRefusal(t, full, moveCall(19, 1, 6, 11, way), impl.BkShort)
		// A lot that is taken whole leaves room for one.
		want := withBal(withBal(full, 19, 6, 0, nil), 18, 6, 20, lotRows{{18, 6, 108, 10, 18}, {18, 6, 1001, 10, 19}})
		want.Lot = 1001
		checkCall(t, full, moveCall(19, 18, 6, 10, way), want, 19, impl.BkDone)
		checkCall(t, full, moveCall(19, 18, 7, 10, way), withBal(withBal(full, 19, 7, 0, nil), 18, 7, 20, nil), 0, impl.BkDone)
	}
	// Of two lots the last one is one piece, and Mean makes one lot of both.
	checkRefusal(t, full, moveCall(1, 2, 1, 1, impl.First), impl.BkFull)
	for _, c := range []bookCall{moveCall(1, 19, 1, 1, impl.Last), moveCall(1, 19, 1, 9, impl.First), moveCall(1, 19, 1, 1, impl.Mean), moveCall(1, 19, 1, 9, impl.Mean)} {
		checkCallByWords(t, full, c)
		if b, _, code := c.do(full); code != impl.BkDone || len(b.Lots) != impl.MaxLots {
			t.Error("lots that leave room", c, b, code)
		}
	}
}

// Holder 1000 has one piece that cost all that can be, and holder 4 pieces that cost nearly as much.
func TestP6MoveOfTooMuchCost(t *testing.T) {
	far := farBooks()
	for _, way := range threeWays() {
		checkRefusal(t, far, moveCall(1000, 4, 1, 1, way), impl.BkFull)
	}
	cheap := withBal(withBal(far, 4, 1, 2, lotRows{{4, 1, 7, 1, top - 3}, {4, 1, 8, 1, 2}}), 3, 1, -3, nil)
	for _, way := range []int{impl.First, impl.Mean} {
		checkRefusal(t, cheap, moveCall(4, 1000, 1, 1, way), impl.BkFull)
	}
	checkRefusal(t, cheap, moveCall(4, 1000, 1, 1, impl.Last), impl.BkFull)
	free := withBal(cheap, 4, 1, 2, lotRows{{4, 1, 7, 1, top}, {4, 1, 8, 1, 0}})
	checkRefusal(t, free, moveCall(4, 1000, 1, 1, impl.First), impl.BkFull)
	checkRefusal(t, free, moveCall(4, 1000, 1, 1, impl.Mean), impl.BkFull)
	want := withBal(withBal(free, 4, 1, 1, lotRows{{4, 1, 7, 1, top}}), 1000, 1, 2, lotRows{{1000, 1, lastNo - 2, 1, top}, {1000, 1, lastNo - 1, 1, 0}})
	want.Lot = lastNo - 1
	checkCall(t, free, moveCall(4, 1000, 1, 1, impl.Last), want, 0, impl.BkDone)
	// A cost of MaxAmount goes along whole.
	want = withBal(withBal(free, 1000, 1, 0, nil), 4, 1, 2, lotRows{{4, 1, 7, 1, 0}, {4, 1, 8, 1, 0}})
	want = withBal(want, 4, 1, 3, lotRows{{4, 1, 7, 1, 0}, {4, 1, 8, 1, 0}, {4, 1, lastNo - 1, 1, top}})
	want.Lot = lastNo - 1
	zero := withBal(free, 4, 1, 2, lotRows{{4, 1, 7, 1, 0}, {4, 1, 8, 1, 0}})
	for _, way := range threeWays() {
		checkCall(t, zero, moveCall(1000, 4, 1, 1, way), want, top, impl.BkDone)
	}
}

func TestP6MoveOfTheLastLots(t *testing.T) {
	for _, way := range threeWays() {
		b := someBooks()
		b.Lot = lastNo - 1
		want := withBal(withBal(b, 3, 7, 2, lotRows{{3, 7, 3, 2, 24}}), 6, 7, 3, lotRows{{6, 7, lastNo, 3, 36}})
		want.Lot = lastNo
		checkCall(t, b, moveCall(3, 6, 7, 3, way), want, 36, impl.BkDone)
		checkRefusal(t, want, moveCall(3, 6, 7, 2, way), impl.BkFull)
		checkRefusal(t, want, moveCall(2, 3, 7, 20, way), impl.BkFull)
		// What is short is the part that is named first, and of a Cash no lot is needed.
		checkRefusal(t, want, moveCall(3, 6, 7, 3, way), impl.BkShort)
		checkCall(t, want, moveCall(2, 3, 5, 1, way), withBal(withBal(want, 2, 5, 299, nil), 3, 5, 151, nil), 0, impl.BkDone)
	}
}

// What is moved one has more and the other less, and its cost goes along; nobody else has another thing.
func checkMoved(t *testing.T, b impl.Books, c bookCall) {
	t.Helper()
	from, to, instr, qty := c.args[0], c.args[1], c.args[2], c.args[3]
	next, cost, code := impl.BookMove(b, from, to, instr, qty, c.args[4])
	if code != impl.BkDone {
		return
	}
	pieces := qty
	if kindIn(b.Instrs, instr) == impl.Cash {
		pieces = 0
	}
	for _, a := range b.Accounts {
		for _, i := range b.Instrs {
			want := [3]int{}
			if a.No == from && i.No == instr {
				want = [3]int{-qty, -pieces, -cost}
			}
			if a.No == to && i.No == instr {
				want = [3]int{qty, pieces, cost}
			}
			checkTurnedBy(t, b, next, c, a.No, i.No, want)
		}
	}
	if !slices.Equal(next.Accounts, b.Accounts) || !slices.Equal(next.Instrs, b.Instrs) || !slices.Equal(next.Trades, b.Trades) {
		t.Errorf("%v of %v turns more than balances and lots: %v", c, b, next)
	}
}

func TestP6MovesByTheWords(t *testing.T) {
	last := someBooks()
	last.Lot = lastNo
	for _, b := range []impl.Books{{}, someBooks(), last, farBooks()} {
		for _, from := range []int{0, 1, 2, 3, 4, 7, 1000} {
			for _, to := range []int{1, 2, 3, 4, 6, 1000, 1001} {
				for _, instr := range []int{0, 1, 5, 7, 8, 1000} {
					for _, qty := range []int{0, 1, 3, 10, 20, 21, top, top + 1} {
						for way := range 5 {
							c := moveCall(from, to, instr, qty, way)
							checkCallByWords(t, b, c)
							checkMoved(t, b, c)
						}
					}
				}
			}
		}
	}
}
