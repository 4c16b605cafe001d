package tests

import (
	"bytes"
	"math"
	"slices"
	"testing"

	"loop.example/g00110/impl"
)

// engineRoom is an engine, and bytes beside it, whose lists have marked room behind them.
type engineRoom struct {
	files  []impl.File
	books  booksRoom
	bytes  []byte
	engine impl.Engine
	call   engineCall
}

func roomyEngine(e impl.Engine, c engineCall) engineRoom {
	r := engineRoom{books: roomyBooks(e.Books), engine: e, call: c}
	r.files, r.engine.Disk.Files, _ = roomy(e.Disk.Files, fileOf(spareMark, "spare", "room"))
	r.bytes, r.call.bytes, _ = roomy(c.bytes, 201)
	r.engine.Books = r.books.books
	return r
}

// kept says whether all lists and the room behind them are those of this engine and this call still.
func (r engineRoom) kept(e impl.Engine, c engineCall) bool {
	fresh := roomyEngine(e, c)
	return slices.Equal(r.files, fresh.files) && r.books.kept(e.Books) && bytes.Equal(r.bytes, fresh.bytes)
}

func (r engineRoom) fill() {
	fill(r.files, fileOf(-5, "later", ""))
	fillBooks(r.books.books, -5)
	fill(r.bytes, 205)
}

func (r engineRoom) isFilled() bool {
	return allAre(r.files, fileOf(-5, "later", "")) && r.books.allAre(-5) && allAre(r.bytes, 205)
}

func (a enAnswer) clone() enAnswer {
	return enAnswer{cloneEngine(a.engine), slices.Clone(a.told), a.code}
}

func (a enAnswer) same(b enAnswer) bool {
	return sameEngine(a.engine, b.engine) && bytes.Equal(a.told, b.told) && a.code == b.code
}

// fill writes all over what is told, and the room behind it.
func (a enAnswer) fill() {
	fill(a.engine.Disk.Files[:cap(a.engine.Disk.Files)], fileOf(-6, "", "own"))
	fillBooks(a.engine.Books, -6)
	fill(a.told[:cap(a.told)], 206)
}

// checkEngineWrites wants a call to leave all alone that it is given, and what it tells to share memory with that and with no other answer.
func checkEngineWrites(t *testing.T, given impl.Engine, c engineCall) {
	t.Helper()
	r := roomyEngine(given, c)
	impl.EngineOk(r.engine)
	got, other := r.call.do(r.engine), r.call.do(r.engine)
	if !r.kept(given, c) {
		t.Errorf("%v of %s writes into what it was given", c, engineText(given))
	}
	want := got.clone()
	other.fill()
	r.fill()
	if !got.same(want) {
		t.Errorf("%v of %s: what is told shares memory: %v", c, engineText(given), want)
	}
	got.fill()
	if !r.isFilled() {
		t.Errorf("%v of %s: what it was given shares memory with what is told: %v", c, engineText(given), want)
	}
	if again := c.do(given); !again.same(want) {
		t.Errorf("%v of %s tells %v at first and %v then", c, engineText(given), want, again)
	}
}

// memoryCalls are calls of all kinds, such that are done and such that are refused.
func memoryCalls() []engineCall {
	list := []engineCall{saveCall(), openCall(), crashCall(0), crashCall(3), tornSaveCall(-1, 2), tornSaveCall(0, 2), tornSaveCall(1, 2), tornSaveCall(2, 2), tornSaveCall(3, 2), tornSaveCall(4, 2)}
	for _, b := range [][]byte{nil, {}, {99}, make([]byte, 201), newAccount(), bytesOf(accountCall(1, 1)), bytesOf(accountCall(2, 9)), bytesOf(issueCall(1, 2, 7, 5, 9)), bytesOf(cancelCall(1)), append(newAccount(), 0)} {
		list = append(list, submitCall(b), tornCall(b, 0), tornCall(b, 7), tornCall(b, 60000))
	}
	return list
}

func TestP22EnginesWriteIntoNothing(t *testing.T) {
	wrong := wrongEngines()
	for i, e := range slices.Concat(upEngines(), downEngines(), wrong[:40], wrong[len(wrong)-40:]) {
		for j, c := range memoryCalls() {
			if (i+j)%3 == 0 {
				checkEngineWrites(t, e, c)
			}
		}
	}
	for cut := range 21 {
		e := savedLater(t, cut, 18)
		down, _ := impl.EngineCrash(e, 0)
		for _, c := range memoryCalls() {
			checkEngineWrites(t, e, c)
			checkEngineWrites(t, tight(e), c)
			checkEngineWrites(t, down, c)
		}
	}
}

// What is done to one new engine is not seen in another one.
func TestP22NewEnginesAreNewEachTime(t *testing.T) {
	first := enAnswer{engine: impl.EngineNew(60000)}
	first.engine, first.told, _ = impl.EngineSubmit(first.engine, newAccount())
	first.fill()
	for range 3 {
		e := impl.EngineNew(60000)
		if !sameEngine(e, upEngine(diskOf(60000), impl.Books{}, 0, 0)) {
			t.Errorf("a new engine is %s", engineText(e))
		}
		e.Disk.Files = append(e.Disk.Files, fileOf(3, "own", ""))
		e.Books.Accounts = append(e.Books.Accounts, impl.Account{No: 3, Kind: 1})
	}
}

// An engine that was told goes on as it was, whatever becomes of the ones behind it.
func TestP22EnginesOfOneRowShareNothing(t *testing.T) {
	e := impl.EngineNew(60000)
	row := []impl.Engine{e}
	for i, record := range recordsOf(smallRow()...) {
		next, _, _ := impl.EngineSubmit(e, []byte(record))
		if i%7 == 6 {
			next, _ = impl.EngineSave(next)
		}
		row, e = append(row, next), next
	}
	clones := []impl.Engine{}
	for _, e := range row {
		clones = append(clones, cloneEngine(e))
	}
	for i := range row {
		enAnswer{engine: row[i]}.fill()
		for j := i + 1; j < len(row); j++ {
			if !sameEngine(row[j], clones[j]) {
				t.Fatalf("engine %d shares memory with engine %d", j, i)
			}
		}
	}
}

// oddEngines are engines of any numbers and lengths, most of them far from right.
func oddEngines() []impl.Engine {
	list := []impl.Engine{}
	numbers := []int{math.MinInt, -1, 0, 1, 5, 6, 7, 19, 20, 21, 1 << 32, 1 << 62, math.MaxInt}
	for i, d := range append(oddDisks(), ableDisk(), diskOf(60000), byteDisk()) {
		for j, seg := range numbers {
			count := numbers[(i+3*j)%len(numbers)]
			list = append(list, upEngine(d, smallBooks(), seg, count), impl.Engine{Disk: d, Seg: seg, Count: count})
		}
		list = append(list, upEngine(d, impl.Books{}, 0, 0), impl.Engine{Disk: d}, upEngine(d, someBooks(), 19, 6))
	}
	for i, b := range oddBooks() {
		list = append(list, upEngine(diskOf(60000), b, i%20, i%7), impl.Engine{Disk: diskOf(60000), Books: b})
	}
	return list
}

func TestP22EnginesAnswerAtAnything(t *testing.T) {
	odd := []int{math.MinInt, math.MinInt + 1, -1, 0, 1, 3, 4, 5, 7, 60000, 60001, 1 << 32, 1 << 62, math.MaxInt - 1, math.MaxInt}
	inputs := append(oddCmdBytes(), newAccount(), bytesOf(cancelCall(top)), copiesOf(1000000, 6))
	for i, e := range oddEngines() {
		checkEngineOk(t, e, engineRight(e))
		b, x, y := inputs[i%len(inputs)], odd[i%len(odd)], odd[i/3%len(odd)]
		for _, c := range []engineCall{submitCall(b), submitCall(newAccount()), saveCall(), openCall(), crashCall(x), tornCall(b, x), tornCall(newAccount(), y), tornSaveCall(x, y), tornSaveCall(2, x)} {
			checkEngineByWords(t, e, c)
		}
	}
	for _, x := range odd {
		for _, y := range odd {
			for _, e := range []impl.Engine{{}, impl.EngineNew(60000), upEngine(ableDisk(), smallBooks(), 19, 6), {Disk: wantCrash(ableDisk(), 3)}} {
				for _, c := range []engineCall{crashCall(y), tornCall(newAccount(), y), tornCall(nil, y), tornSaveCall(x, y)} {
					checkEngineByWords(t, e, c)
				}
			}
		}
		want := impl.Engine{}
		if 0 <= x && x <= 60000 {
			want = upEngine(diskOf(x), impl.Books{}, 0, 0)
		}
		if got := impl.EngineNew(x); !sameEngine(got, want) {
			t.Errorf("EngineNew(%d) = %s", x, engineText(got))
		}
	}
	for _, e := range []impl.Engine{impl.EngineNew(60000), upEngine(diskOf(60000), someBooks(), 3, 5), {}} {
		for _, b := range slices.Concat(inputs, oddBooksBytes()[:60]) {
			checkEngineByWords(t, e, submitCall(b))
			checkEngineByWords(t, e, tornCall(b, 9))
		}
	}
}
