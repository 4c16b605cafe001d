package tests

import (
	"math"
	"runtime"
	"slices"
	"sync"
	"testing"
	"time"

	"loop.example/g00110/impl"
)

// spareDeed stands in the room behind a row.
func spareDeed() impl.Deed { return impl.Deed{Kind: spareMark, Bytes: "spare", Steps: 3, Keep: 4} }

func laterDeed() impl.Deed { return impl.Deed{Kind: -5, Bytes: "later"} }

// rowAnswer is what a row comes to, by EngineRun and by Accepted.
type rowAnswer struct {
	engine impl.Engine
	codes  []int
	cmds   []impl.Cmd
}

func runRow(e impl.Engine, list []impl.Deed) rowAnswer {
	next, codes := impl.EngineRun(e, list)
	return rowAnswer{next, codes, impl.Accepted(e, list)}
}

func wantRow(e impl.Engine, list []impl.Deed) rowAnswer {
	next, codes := wantDeeds(e, list)
	return rowAnswer{next, codes, wantAccepted(e, list)}
}

func (a rowAnswer) clone() rowAnswer {
	cmds := []impl.Cmd{}
	for _, c := range a.cmds {
		cmds = append(cmds, impl.Cmd{Kind: c.Kind, Args: slices.Clone(c.Args)})
	}
	return rowAnswer{cloneEngine(a.engine), slices.Clone(a.codes), cmds}
}

func (a rowAnswer) same(b rowAnswer) bool {
	return sameEngine(a.engine, b.engine) && slices.Equal(a.codes, b.codes) && sameCmds(a.cmds, b.cmds)
}

// fill writes all over what is told, and the room behind it.
func (a rowAnswer) fill() {
	enAnswer{engine: a.engine}.fill()
	fill(a.codes[:cap(a.codes)], -6)
	for _, c := range a.cmds {
		fill(c.Args[:cap(c.Args)], -6)
	}
	fill(a.cmds[:cap(a.cmds)], impl.Cmd{Kind: -6})
}

func checkRowWrites(t *testing.T, given impl.Engine, list []impl.Deed) {
	t.Helper()
	r := roomyEngine(given, engineCall{})
	whole, row, _ := roomy(list, spareDeed())
	got, other := runRow(r.engine, row), runRow(r.engine, row)
	fresh, _, _ := roomy(list, spareDeed())
	if !r.kept(given, engineCall{}) || !slices.Equal(whole, fresh) {
		t.Errorf("%d deeds of %s write into what they were given", len(list), engineText(given))
	}
	want := got.clone()
	other.fill()
	r.fill()
	fill(whole, laterDeed())
	if !got.same(want) {
		t.Errorf("%d deeds of %s: what is told shares memory", len(list), engineText(given))
	}
	got.fill()
	if !r.isFilled() || !allAre(whole, laterDeed()) {
		t.Errorf("%d deeds of %s: what they were given shares memory with what is told", len(list), engineText(given))
	}
	if again := runRow(given, list); !again.same(want) {
		t.Errorf("%d deeds of %s come to something else then", len(list), engineText(given))
	}
}

func checkDoWrites(t *testing.T, given impl.Engine, d impl.Deed) {
	t.Helper()
	r := roomyEngine(given, engineCall{})
	impl.DeedOk(d)
	got, other := doDeed(r.engine, d), doDeed(r.engine, d)
	if !r.kept(given, engineCall{}) {
		t.Errorf("%s of %s writes into what it was given", deedText(d), engineText(given))
	}
	want := got.clone()
	other.fill()
	r.fill()
	if !got.same(want) {
		t.Errorf("%s of %s: what is told shares memory", deedText(d), engineText(given))
	}
	got.fill()
	if !r.isFilled() {
		t.Errorf("%s of %s: what it was given shares memory with what is told", deedText(d), engineText(given))
	}
}

// memoryDeedRows are rows that are done, such of which nothing is done, and such that are too long.
func memoryDeedRows() [][]impl.Deed {
	hand, _ := deedsAndCodes(handRow())
	return [][]impl.Deed{
		nil, {openDeed()}, {crashDeed(3)}, {saveDeed()}, {submitDeed(newAccount())}, {submitDeed([]byte{99})}, {{}}, {tornDeed(newAccount(), 7), openDeed()}, hand,
		someDeeds(), append([]impl.Deed{openDeed()}, deedsOf(cmdsOf(doneCalls()...)...)...), deedsOf(smallRow()...), make([]impl.Deed, 200), make([]impl.Deed, 201), manyDeeds(201),
	}
}

func TestP22DeedsWriteIntoNothing(t *testing.T) {
	wrong, rows := wrongEngines(), memoryDeedRows()
	for i, e := range slices.Concat(upEngines(), downEngines(), wrong[:30], wrong[len(wrong)-30:]) {
		for j := i % 4; j < len(rows); j += 4 {
			checkRowWrites(t, e, rows[j])
		}
		for j, d := range append(someDeeds(), wrongDeeds()[i%300]) {
			if (i+j)%8 == 0 {
				checkDoWrites(t, e, d)
			}
		}
	}
	for cut := range 21 {
		e := savedLater(t, cut, 18)
		down, _ := impl.EngineCrash(e, 0)
		for _, list := range rows {
			checkRowWrites(t, e, list)
			checkRowWrites(t, down, list)
		}
	}
}

// No list of an answer is turned by what is written into another one of it, not even the arguments of one command by those of another.
func TestP22ListsOfOneRowOfDeedsShareNothing(t *testing.T) {
	list := append(deedsOf(smallRow()...), deedsOf(smallRow()[7:10]...)...)
	cmds := impl.Accepted(impl.EngineNew(60000), list)
	for i := range cmds {
		want := rowAnswer{cmds: cmds}.clone().cmds
		fill(cmds[i].Args[:cap(cmds[i].Args)], -6)
		fill(want[i].Args, -6)
		if !sameCmds(cmds, want) {
			t.Errorf("what is written into command %d is seen in another one: %v", i, cmds)
		}
	}
	fills := []func(a rowAnswer){
		func(a rowAnswer) { fill(a.engine.Disk.Files[:cap(a.engine.Disk.Files)], fileOf(-6, "", "own")) },
		func(a rowAnswer) { fill(a.engine.Books.Accounts[:cap(a.engine.Books.Accounts)], impl.Account{No: -6}) },
		func(a rowAnswer) { fill(a.engine.Books.Instrs[:cap(a.engine.Books.Instrs)], impl.Instr{No: -6}) },
		func(a rowAnswer) { fill(a.engine.Books.Bals[:cap(a.engine.Books.Bals)], impl.Bal{Account: -6}) },
		func(a rowAnswer) { fill(a.engine.Books.Lots[:cap(a.engine.Books.Lots)], impl.Lot{Account: -6}) },
		func(a rowAnswer) { fill(a.engine.Books.Trades[:cap(a.engine.Books.Trades)], impl.Trade{No: -6}) },
		func(a rowAnswer) { fill(a.codes[:cap(a.codes)], -6) },
	}
	for _, list := range append(memoryDeedRows(), list) {
		for _, e := range []impl.Engine{impl.EngineNew(60000), upEngine(ableDisk(), smallBooks(), 3, 2), {Disk: wantCrash(ableDisk(), 3)}, upEngine(diskOf(-1), someBooks(), 3, 2)} {
			for i, write := range fills {
				got := runRow(e, list)
				want := got.clone()
				write(got)
				write(want)
				if !got.same(want) {
					t.Errorf("%d deeds of %s: what is written into list %d is seen in another one", len(list), engineText(e), i)
				}
			}
		}
	}
}

// Engines that were told in one row of rows go on as they were, whatever becomes of the others.
func TestP22EnginesOfRowsShareNothing(t *testing.T) {
	e := impl.EngineNew(60000)
	engines := []impl.Engine{e}
	for i, d := range append(deedsOf(smallRow()...), saveDeed(), openDeed(), impl.Deed{}, crashDeed(0), openDeed()) {
		e, _ = impl.EngineRun(e, []impl.Deed{d})
		engines = append(engines, e)
		if i%5 == 4 {
			// A row of which nothing is done tells an engine of its own.
			e, _ = impl.EngineRun(e, []impl.Deed{{}, {Kind: 9}})
			engines = append(engines, e)
		}
	}
	clones := []impl.Engine{}
	for _, e := range engines {
		clones = append(clones, cloneEngine(e))
	}
	for i := range engines {
		enAnswer{engine: engines[i]}.fill()
		for j := i + 1; j < len(engines); j++ {
			if !sameEngine(engines[j], clones[j]) {
				t.Fatalf("engine %d shares memory with engine %d", j, i)
			}
		}
	}
}

// checkGoroutines wants no more of them than there were; one that has told all may still be on its way out.
func checkGoroutines(t *testing.T, before int, what string) {
	t.Helper()
	for range 2000 {
		if runtime.NumGoroutine() <= before {
			return
		}
		time.Sleep(time.Millisecond)
	}
	t.Fatalf("%s: %d goroutines, and there were %d", what, runtime.NumGoroutine(), before)
}

func TestP22NoGoroutineIsLeft(t *testing.T) {
	before := runtime.NumGoroutine()
	engines := []impl.Engine{impl.EngineNew(60000), upEngine(diskOf(60000), smallBooks(), 3, 2), {}, {Disk: diskOf(9, fileOf(1, "a", "b"))}, upEngine(diskOf(60000), impl.Books{Lot: -1}, 0, 0)}
	for range 20 {
		for _, e := range engines {
			for _, list := range memoryDeedRows() {
				runRow(e, list)
			}
			for _, d := range append(someDeeds(), wrongDeeds()[:20]...) {
				impl.EngineDo(e, d)
			}
		}
		checkGoroutines(t, before, "behind rows and deeds")
	}
}

// Calls side by side, on one engine and one row, answer as one behind the other do.
func TestP22RowsSideBySide(t *testing.T) {
	for seed := range 8 {
		roll := dice(220000 + seed)
		given := impl.EngineNew(60000)
		given, _ = impl.EngineRun(given, deedsOf(smallRow()[:10+seed]...))
		list := drawnDeeds(given, 120, roll, 25)
		want := runRow(given, list)
		if !want.same(wantRow(given, list)) {
			t.Errorf("%d deeds of %s are wrong already", len(list), engineText(given))
		}
		got := make([]rowAnswer, 24)
		told := make([][]enAnswer, len(got))
		wg := sync.WaitGroup{}
		for i := range got {
			wg.Go(func() {
				got[i] = runRow(given, list)
				for _, d := range list[:30] {
					told[i] = append(told[i], doDeed(given, d))
				}
			})
		}
		wg.Wait()
		for i := range got {
			if !got[i].same(want) {
				t.Errorf("row %d of many beside one another is %s, %v", i, engineText(got[i].engine), got[i].codes)
			}
			for j, d := range list[:30] {
				checkDo(t, given, d, told[i][j])
			}
		}
	}
}

// inTime wants a call to end, however odd it is.
func inTime(t *testing.T, what string, call func()) {
	t.Helper()
	done := make(chan struct{})
	go func() {
		defer close(done)
		call()
	}()
	select {
	case <-done:
	case <-time.After(time.Minute):
		t.Fatal("there is no end of", what)
	}
}

// oddDeeds are deeds of any numbers and lengths, few of them right.
func oddDeeds() []impl.Deed {
	odd := []int{math.MinInt, math.MinInt + 1, -1, 0, 1, 2, 3, 4, 5, 6, 7, 60000, 60001, 1 << 32, 1 << 62, math.MaxInt - 1, math.MaxInt}
	texts := append(append(deedTexts(), longTexts()...), string(bytesOf(cancelCall(top))))
	list := []impl.Deed{}
	for i, kind := range append(odd, 1, 2, 3, 4, 5, 6, 1, 2, 3, 4, 5, 6) {
		for j, x := range odd {
			list = append(list, impl.Deed{Kind: kind, Bytes: texts[(3*i+j)%len(texts)], Steps: x, Keep: odd[(i+5*j)%len(odd)]}, impl.Deed{Kind: kind, Bytes: texts[(i+j)%len(texts)]})
			list = append(list, impl.Deed{Kind: kind, Steps: x}, impl.Deed{Kind: kind, Keep: x}, impl.Deed{Kind: kind, Steps: odd[i%len(odd)], Keep: x})
		}
	}
	return list
}

func TestP22DeedsAnswerAtAnything(t *testing.T) {
	deeds, engines := oddDeeds(), oddEngines()
	inTime(t, "deeds of odd engines", func() {
		for i, d := range deeds {
			checkDeedOk(t, d, deedRight(d))
			for _, e := range []impl.Engine{engines[i%len(engines)], impl.EngineNew(60000), upEngine(ableDisk(), smallBooks(), 19, 6), {Disk: wantCrash(ableDisk(), 3)}} {
				checkDoByWords(t, e, d)
			}
		}
	})
	inTime(t, "rows of odd deeds", func() {
		for i, e := range append(engines, impl.EngineNew(60000), upEngine(ableDisk(), smallBooks(), 19, 6), impl.Engine{Disk: wantCrash(ableDisk(), 3)}) {
			for _, n := range []int{0, 1, 30, 200, 201} {
				at := (i * 37) % (len(deeds) - n)
				list := deeds[at : at+n]
				if got := runRow(e, list); !got.same(wantRow(e, list)) {
					t.Errorf("%d odd deeds of %s come to %s, %v, %v", n, engineText(e), engineText(got.engine), got.codes, got.cmds)
				}
			}
		}
		long := slices.Repeat(deeds, 100)
		for _, e := range engines {
			checkNoDeeds(t, e, long)
			checkAccepted(t, e, long)
		}
	})
}
