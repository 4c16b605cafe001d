package tests

import (
	"math"
	"slices"
	"testing"

	"loop.example/g00110/impl"
)

// chartRow is either an account or an instrument.
type chartRow struct {
	No   int
	Kind int
}

type chartRows interface {
	~struct {
		No   int
		Kind int
	}
}

// chartFace is what the chapter lists for one of the two kinds of list, so that both are asked the same.
type chartFace[R chartRows] struct {
	most, kinds int
	ok          func([]R) bool
	put         func([]R, R) ([]R, bool)
	kind        func([]R, int) int
}

func accountFace() chartFace[impl.Account] {
	return chartFace[impl.Account]{20, 4, impl.AccountsOk, impl.AccountPut, impl.AccountKind}
}

func instrFace() chartFace[impl.Instr] {
	return chartFace[impl.Instr]{8, 2, impl.InstrsOk, impl.InstrPut, impl.InstrKind}
}

// forBothCharts runs a test on the accounts and on the instruments.
func forBothCharts(t *testing.T, accounts func(*testing.T, chartFace[impl.Account]), instrs func(*testing.T, chartFace[impl.Instr])) {
	t.Run("accounts", func(t *testing.T) { accounts(t, accountFace()) })
	t.Run("instruments", func(t *testing.T) { instrs(t, instrFace()) })
}

// rows is a list of those numbers, whose kinds go round from the first on.
func (f chartFace[R]) rows(numbers ...int) []R {
	list := []R{}
	for i, no := range numbers {
		list = append(list, R{No: no, Kind: 1 + i%f.kinds})
	}
	return list
}

// ascending is a list of n rows, with step from one number to the next.
func (f chartFace[R]) ascending(n int, first int, step int) []R {
	numbers := make([]int, n)
	for i := range numbers {
		numbers[i] = first + i*step
	}
	return f.rows(numbers...)
}

func (f chartFace[R]) rightLists() [][]R {
	return [][]R{
		nil,
		{},
		f.rows(1),
		f.rows(impl.MaxNo),
		f.rows(7),
		f.rows(1, 2),
		f.rows(1, impl.MaxNo),
		f.rows(impl.MaxNo-1, impl.MaxNo),
		f.rows(2, 5, 9),
		f.rows(3, 10, 100, 999),
		f.ascending(f.most-1, 1, 1),
		f.ascending(f.most-1, 30, 50),
		f.ascending(f.most, 1, 1),
		f.ascending(f.most, 2, 40),
		f.ascending(f.most, impl.MaxNo-f.most+1, 1),
	}
}

// wrongNumbers are numbers that neither an account nor an instrument has.
func wrongNumbers() []int {
	return []int{0, -1, -2, -impl.MaxNo, impl.MaxNo + 1, impl.MaxNo + 2, 2 * impl.MaxNo, top, math.MaxInt, math.MinInt}
}

func (f chartFace[R]) wrongKinds() []int {
	return []int{0, -1, -f.kinds, f.kinds + 1, f.kinds + 2, 100, math.MaxInt, math.MinInt}
}

// wrongLists break one rule each, at the front, in the middle and at the end.
func (f chartFace[R]) wrongLists() [][]R {
	lists := [][]R{
		f.rows(2, 1),
		f.rows(5, 3, 9),
		f.rows(3, 9, 5),
		f.rows(9, 5, 3),
		f.rows(4, 4),
		f.rows(4, 4, 9),
		f.rows(1, 4, 4),
		f.rows(4, 9, 4),
		{{No: 4, Kind: 1}, {No: 4, Kind: 1}},
		{{No: 1, Kind: 1}, {No: 4, Kind: 2}, {No: 4, Kind: 2}},
		f.rows(1, impl.MaxNo, impl.MaxNo),
		f.rows(impl.MaxNo, 1),
		f.ascending(f.most+1, 1, 1),
		f.ascending(f.most+1, 3, 40),
		f.ascending(f.most+2, 1, 1),
		f.ascending(500, 1, 2),
		append(f.ascending(f.most, 1, 1), R{}),
	}
	for _, no := range wrongNumbers() {
		wrong := R{No: no, Kind: 1}
		lists = append(lists, []R{wrong}, []R{wrong, {No: 7, Kind: 2}}, []R{{No: 7, Kind: 2}, wrong}, []R{{No: 5, Kind: 1}, wrong, {No: 7, Kind: 1}})
	}
	for _, kind := range f.wrongKinds() {
		lists = append(lists, []R{{No: 3, Kind: kind}})
		for place := range 3 {
			list := f.rows(2, 5, 9)
			list[place] = R{No: chartRow(list[place]).No, Kind: kind}
			lists = append(lists, list)
		}
		full := f.ascending(f.most, 1, 1)
		full[f.most-1] = R{No: f.most, Kind: kind}
		lists = append(lists, full)
	}
	return lists
}

// smallLists are all lists of up to three rows of the numbers 0 to 4 and the kinds 0 to one above the last.
func (f chartFace[R]) smallLists() [][]R {
	lists, from := [][]R{{}}, 0
	for range 3 {
		until := len(lists)
		for ; from < until; from++ {
			for no := range 5 {
				for kind := range f.kinds + 2 {
					lists = append(lists, append(slices.Clone(lists[from]), R{No: no, Kind: kind}))
				}
			}
		}
	}
	return lists
}

// rightRow says by the words whether a row is as the chapter tells.
func (f chartFace[R]) rightRow(r R) bool {
	row := chartRow(r)
	return 1 <= row.No && row.No <= 1000 && 1 <= row.Kind && row.Kind <= f.kinds
}

// rightList says by the words whether a list is right.
func (f chartFace[R]) rightList(list []R) bool {
	for i, r := range list {
		if !f.rightRow(r) || i > 0 && chartRow(list[i-1]).No >= chartRow(r).No {
			return false
		}
	}
	return len(list) <= f.most
}

// kindIn looks for a number by a plain search.
func kindIn[R chartRows](list []R, no int) int {
	for _, r := range list {
		if chartRow(r).No == no {
			return chartRow(r).Kind
		}
	}
	return 0
}

// wantPut is what a put must answer, by the words: the rows that are lower, the new one, the rows that are higher.
func (f chartFace[R]) wantPut(list []R, r R) ([]R, bool) {
	if !f.rightList(list) {
		return nil, false
	}
	if !f.rightRow(r) || len(list) == f.most || kindIn(list, chartRow(r).No) != 0 {
		return list, false
	}
	want := []R{}
	for _, old := range list {
		if chartRow(old).No < chartRow(r).No {
			want = append(want, old)
		}
	}
	want = append(want, r)
	return append(want, list[len(want)-1:]...), true
}

func checkPut[R chartRows](t *testing.T, f chartFace[R], list []R, r R, want []R, wantOk bool) {
	t.Helper()
	if got, ok := f.put(list, r); !slices.Equal(got, want) || ok != wantOk {
		t.Errorf("put(%v, %v) = %v, %v; want %v, %v", list, r, got, ok, want, wantOk)
	}
}

func checkKind[R chartRows](t *testing.T, f chartFace[R], list []R, no int, want int) {
	t.Helper()
	if got := f.kind(list, no); got != want {
		t.Errorf("kind(%v, %d) = %d; want %d", list, no, got, want)
	}
}

// askedNumbers are the numbers of a list, those beside them, and the edges.
func askedNumbers[R chartRows](list []R) []int {
	numbers := append(wrongNumbers(), 1, 2, 6, 500, impl.MaxNo-1, impl.MaxNo)
	for _, r := range list {
		no := chartRow(r).No
		numbers = append(numbers, no-1, no, no+1)
	}
	return numbers
}

func TestP3Constants(t *testing.T) {
	if impl.MaxAccounts != 20 || impl.MaxInstrs != 8 || impl.MaxNo != 1000 {
		t.Error("limits", impl.MaxAccounts, impl.MaxInstrs, impl.MaxNo)
	}
	if impl.Holder != 1 || impl.Issuer != 2 || impl.Dealer != 3 || impl.Rounder != 4 {
		t.Error("kinds of accounts", impl.Holder, impl.Issuer, impl.Dealer, impl.Rounder)
	}
	if impl.Cash != 1 || impl.Paper != 2 {
		t.Error("kinds of instruments", impl.Cash, impl.Paper)
	}
}

func TestP3ListsOk(t *testing.T) {
	forBothCharts(t, checkListsOk[impl.Account], checkListsOk[impl.Instr])
}

func checkListsOk[R chartRows](t *testing.T, f chartFace[R]) {
	for _, list := range f.rightLists() {
		if !f.ok(list) {
			t.Errorf("%v is not right", list)
		}
	}
	for _, list := range f.wrongLists() {
		if f.ok(list) {
			t.Errorf("%v is right", list)
		}
	}
	for kind := 1; kind <= f.kinds; kind++ {
		if !f.ok([]R{{No: 3, Kind: kind}}) {
			t.Errorf("kind %d is not right", kind)
		}
	}
	for n := range f.most + 4 {
		if f.ok(f.ascending(n, 1, 1)) != (n <= f.most) {
			t.Errorf("%d rows", n)
		}
	}
}

// A list that is too long is right again without its last row, though the room behind it holds that one still.
func TestP3RoomIsNoPartOfAList(t *testing.T) {
	forBothCharts(t, checkRoomIsNoPart[impl.Account], checkRoomIsNoPart[impl.Instr])
}

func checkRoomIsNoPart[R chartRows](t *testing.T, f chartFace[R]) {
	long := f.ascending(f.most+1, 1, 1)
	if !f.ok(long[:f.most]) {
		t.Error("the room behind a list counts")
	}
	checkKind(t, f, long[:f.most], f.most, 1+(f.most-1)%f.kinds)
	checkKind(t, f, long[:f.most], f.most+1, 0)
	checkPut(t, f, long[:f.most-1], long[f.most], append(f.ascending(f.most-1, 1, 1), long[f.most]), true)
}

func TestP3AccountPut(t *testing.T) {
	list := []impl.Account{{No: 2, Kind: impl.Holder}, {No: 9, Kind: impl.Issuer}}
	for _, c := range []struct {
		a    impl.Account
		want []impl.Account
	}{
		{impl.Account{No: 1, Kind: impl.Rounder}, []impl.Account{{No: 1, Kind: impl.Rounder}, {No: 2, Kind: impl.Holder}, {No: 9, Kind: impl.Issuer}}},
		{impl.Account{No: 5, Kind: impl.Dealer}, []impl.Account{{No: 2, Kind: impl.Holder}, {No: 5, Kind: impl.Dealer}, {No: 9, Kind: impl.Issuer}}},
		{impl.Account{No: 10, Kind: impl.Holder}, []impl.Account{{No: 2, Kind: impl.Holder}, {No: 9, Kind: impl.Issuer}, {No: 10, Kind: impl.Holder}}},
		{impl.Account{No: 1000, Kind: impl.Issuer}, []impl.Account{{No: 2, Kind: impl.Holder}, {No: 9, Kind: impl.Issuer}, {No: 1000, Kind: impl.Issuer}}},
	} {
		checkPut(t, accountFace(), list, c.a, c.want, true)
	}
	checkPut(t, accountFace(), nil, impl.Account{No: 1, Kind: impl.Holder}, []impl.Account{{No: 1, Kind: impl.Holder}}, true)
	checkPut(t, accountFace(), list, impl.Account{No: 9, Kind: impl.Issuer}, list, false)
	checkPut(t, accountFace(), list, impl.Account{No: 9, Kind: impl.Holder}, list, false)
	checkPut(t, accountFace(), list, impl.Account{No: 3, Kind: 5}, list, false)
	checkPut(t, accountFace(), list, impl.Account{No: 1001, Kind: impl.Holder}, list, false)
	checkPut(t, accountFace(), []impl.Account{list[1], list[0]}, impl.Account{No: 3, Kind: impl.Holder}, nil, false)
}

func TestP3InstrPut(t *testing.T) {
	list := []impl.Instr{{No: 4, Kind: impl.Paper}, {No: 6, Kind: impl.Cash}}
	checkPut(t, instrFace(), list, impl.Instr{No: 3, Kind: impl.Cash}, []impl.Instr{{No: 3, Kind: impl.Cash}, list[0], list[1]}, true)
	checkPut(t, instrFace(), list, impl.Instr{No: 5, Kind: impl.Paper}, []impl.Instr{list[0], {No: 5, Kind: impl.Paper}, list[1]}, true)
	checkPut(t, instrFace(), list, impl.Instr{No: 1000, Kind: impl.Paper}, []impl.Instr{list[0], list[1], {No: 1000, Kind: impl.Paper}}, true)
	checkPut(t, instrFace(), []impl.Instr{}, impl.Instr{No: 1000, Kind: impl.Cash}, []impl.Instr{{No: 1000, Kind: impl.Cash}}, true)
	checkPut(t, instrFace(), list, impl.Instr{No: 4, Kind: impl.Paper}, list, false)
	checkPut(t, instrFace(), list, impl.Instr{No: 4, Kind: impl.Cash}, list, false)
	// What is a kind of an account is none of an instrument.
	checkPut(t, instrFace(), list, impl.Instr{No: 5, Kind: impl.Dealer}, list, false)
	checkPut(t, instrFace(), []impl.Instr{{No: 4, Kind: impl.Dealer}}, impl.Instr{No: 5, Kind: impl.Cash}, nil, false)
}

func TestP3PutIsFoundAndTurnsNoOther(t *testing.T) {
	forBothCharts(t, checkPutIsFound[impl.Account], checkPutIsFound[impl.Instr])
}

func checkPutIsFound[R chartRows](t *testing.T, f chartFace[R]) {
	for _, list := range f.rightLists() {
		if len(list) == f.most {
			continue
		}
		for _, no := range askedNumbers(list) {
			if no < 1 || no > impl.MaxNo || kindIn(list, no) != 0 {
				continue
			}
			for kind := 1; kind <= f.kinds; kind++ {
				next, ok := f.put(list, R{No: no, Kind: kind})
				if !ok || !f.ok(next) || len(next) != len(list)+1 {
					t.Errorf("put(%v, %d of kind %d) = %v, %v", list, no, kind, next, ok)
				}
				checkKind(t, f, next, no, kind)
				for _, other := range askedNumbers(next) {
					if other != no {
						checkKind(t, f, next, other, kindIn(list, other))
					}
				}
			}
		}
	}
}

// However a chart is filled, from the front, from the end or from the middle, it comes out the same, and takes no more when it is full.
func TestP3FilledInAnyOrder(t *testing.T) {
	forBothCharts(t, checkFilled[impl.Account], checkFilled[impl.Instr])
}

func checkFilled[R chartRows](t *testing.T, f chartFace[R]) {
	want := f.ascending(f.most, 3, 49)
	for step := 1; step < 40; step++ {
		if f.most%2 == 0 && step%2 == 0 || f.most%5 == 0 && step%5 == 0 {
			continue
		}
		list := []R{}
		for i := range f.most {
			next, ok := f.put(list, want[(i*step+step)%f.most])
			if !ok || len(next) != i+1 {
				t.Fatalf("put number %d by steps of %d: %v, %v", i, step, next, ok)
			}
			list = next
		}
		if !slices.Equal(list, want) {
			t.Errorf("filled by steps of %d: %v", step, list)
		}
		for _, no := range []int{1, 4, impl.MaxNo, chartRow(want[0]).No} {
			checkPut(t, f, list, R{No: no, Kind: 1}, want, false)
		}
	}
}

func TestP3PutOfWrongRows(t *testing.T) {
	forBothCharts(t, checkPutOfWrongRows[impl.Account], checkPutOfWrongRows[impl.Instr])
}

func checkPutOfWrongRows[R chartRows](t *testing.T, f chartFace[R]) {
	for _, list := range f.rightLists() {
		for _, no := range wrongNumbers() {
			for kind := range f.kinds + 2 {
				checkPut(t, f, list, R{No: no, Kind: kind}, list, false)
			}
		}
		for _, kind := range f.wrongKinds() {
			for _, no := range askedNumbers(list) {
				checkPut(t, f, list, R{No: no, Kind: kind}, list, false)
			}
		}
		for _, known := range list {
			for kind := -1; kind <= f.kinds+1; kind++ {
				checkPut(t, f, list, R{No: chartRow(known).No, Kind: kind}, list, false)
			}
		}
	}
}

func TestP3WrongListsTellNothing(t *testing.T) {
	forBothCharts(t, checkWrongLists[impl.Account], checkWrongLists[impl.Instr])
}

func checkWrongLists[R chartRows](t *testing.T, f chartFace[R]) {
	for _, list := range f.wrongLists() {
		for _, no := range askedNumbers(list) {
			checkKind(t, f, list, no, 0)
			for kind := range f.kinds + 2 {
				checkPut(t, f, list, R{No: no, Kind: kind}, nil, false)
			}
		}
	}
}

func TestP3Kind(t *testing.T) {
	forBothCharts(t, checkKinds[impl.Account], checkKinds[impl.Instr])
}

func checkKinds[R chartRows](t *testing.T, f chartFace[R]) {
	for _, list := range f.rightLists() {
		for _, no := range askedNumbers(list) {
			checkKind(t, f, list, no, kindIn(list, no))
		}
	}
}

func TestP3SmallListsByTheWords(t *testing.T) {
	forBothCharts(t, checkSmallLists[impl.Account], checkSmallLists[impl.Instr])
}

func checkSmallLists[R chartRows](t *testing.T, f chartFace[R]) {
	for _, list := range f.smallLists() {
		right := f.rightList(list)
		if f.ok(list) != right {
			t.Errorf("ok(%v) is %v", list, !right)
		}
		for no := range 6 {
			want := 0
			if right {
				want = kindIn(list, no)
			}
			checkKind(t, f, list, no, want)
			r := R{No: no, Kind: 1 + no%f.kinds}
			wantList, wantOk := f.wantPut(list, r)
			checkPut(t, f, list, r, wantList, wantOk)
		}
	}
}

func TestP22ChartWritesIntoNoList(t *testing.T) {
	forBothCharts(t, checkNoWriting[impl.Account], checkNoWriting[impl.Instr])
}

// fill writes one row all over a list.
func fill[R any](list []R, r R) {
	for i := range list {
		list[i] = r
	}
}

func allAre[R comparable](list []R, r R) bool {
	return !slices.ContainsFunc(list, func(x R) bool { return x != r })
}

func checkNoWriting[R chartRows](t *testing.T, f chartFace[R]) {
	mark, later, own := R{No: spareMark, Kind: 1}, R{No: -5, Kind: 1}, R{No: -6, Kind: 2}
	for _, given := range append(f.rightLists(), f.wrongLists()...) {
		for _, r := range []R{{No: 1, Kind: 1}, {No: 6, Kind: 2}, {No: 9, Kind: 1}, {No: impl.MaxNo, Kind: 1}, {No: 0, Kind: 1}, {No: 6, Kind: 0}} {
			whole := append(slices.Clone(given), make([]R, 30)...)
			list, room := whole[:len(given)], whole[len(given):]
			fill(room, mark)
			f.ok(list)
			f.kind(list, chartRow(r).No)
			next, _ := f.put(list, r)
			if !slices.Equal(list, given) || !allAre(room, mark) {
				t.Errorf("put %v: list %v became %v, room %v", r, given, list, room)
			}
			// Whoever writes on into the list turns no answer, and the other way round.
			kept := slices.Clone(next)
			fill(whole, later)
			if !slices.Equal(next, kept) {
				t.Errorf("put(%v, %v): the answer shares memory with the list", given, r)
			}
			fill(next[:cap(next)], own)
			if !allAre(whole, later) {
				t.Errorf("put(%v, %v): the list shares memory with the answer", given, r)
			}
		}
	}
}

// Two calls of the same tell the same, whatever was done to the first answer.
func TestP22ChartsAreNewEachTime(t *testing.T) {
	forBothCharts(t, checkNewEachTime[impl.Account], checkNewEachTime[impl.Instr])
}

func checkNewEachTime[R chartRows](t *testing.T, f chartFace[R]) {
	for _, list := range f.rightLists() {
		for _, no := range []int{1, 6, 0} {
			r := R{No: no, Kind: 1}
			want, wantOk := f.wantPut(list, r)
			first, _ := f.put(list, r)
			fill(first[:cap(first)], R{No: 3, Kind: 2})
			checkPut(t, f, list, r, want, wantOk)
		}
	}
}
