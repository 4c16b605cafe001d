package tests

import (
	"slices"
	"strings"
	"testing"

	"loop.example/g00110/impl"
)

// downOn is a crashed engine with that disk.
func downOn(d impl.Disk) enAnswer { return enAnswer{engine: impl.Engine{Disk: d}} }

func TestP17CrashByHand(t *testing.T) {
	for _, b := range []impl.Books{{}, someBooks(), {Lot: 5}} {
		e := upEngine(someDisk(), b, 7, 4)
		checkEngine(t, e, crashCall(-1), downOn(diskOf(20, fileOf(1, "ab", ""), fileOf(4, "fgh", ""), fileOf(9, "", ""), fileOf(12, "", ""), fileOf(21, "mn", ""))))
		checkEngine(t, e, crashCall(0), downOn(diskOf(20, fileOf(1, "ab", ""), fileOf(4, "fgh", ""), fileOf(9, "", ""), fileOf(12, "", ""), fileOf(21, "mn", ""))))
		checkEngine(t, e, crashCall(1), downOn(diskOf(20, fileOf(1, "abc", ""), fileOf(4, "fgh", ""), fileOf(9, "i", ""), fileOf(12, "", ""), fileOf(21, "mno", ""))))
		checkEngine(t, e, crashCall(3), downOn(diskOf(20, fileOf(1, "abcde", ""), fileOf(4, "fgh", ""), fileOf(9, "ijk", ""), fileOf(12, "", ""), fileOf(21, "mnopq", ""))))
		checkEngine(t, e, crashCall(60000), downOn(diskOf(20, fileOf(1, "abcde", ""), fileOf(4, "fgh", ""), fileOf(9, "ijkl", ""), fileOf(12, "", ""), fileOf(21, "mnopq", ""))))
	}
	checkStays(t, impl.Engine{Disk: diskOf(9, fileOf(3, "a", ""))}, crashCall(5), impl.EnDown)
	checkEngineBad(t, impl.Engine{Disk: diskOf(9, fileOf(3, "a", "b"))}, crashCall(5))
}

// crashes are crashes of all kinds, with bytes that would be done and with such that would not.
func crashes() []engineCall {
	list := []engineCall{}
	for _, keep := range keeps() {
		list = append(list, crashCall(keep), tornCall(nil, keep), tornCall([]byte{99}, keep), tornCall(newAccount(), keep), tornCall(bytesOf(accountCall(2, 1)), keep))
		for steps := -1; steps <= 5; steps++ {
			list = append(list, tornSaveCall(steps, keep))
		}
	}
	return list
}

func TestP17CrashesByTheWords(t *testing.T) {
	for i, e := range upEngines() {
		for j, c := range crashes() {
			if (i+j)%5 == 0 {
				checkEngineByWords(t, e, c)
			}
		}
	}
}

// One that is down or wrong cannot crash.
func TestP17CrashesThatAreRefused(t *testing.T) {
	for i, e := range downEngines() {
		for j, c := range crashes() {
			if (i+j)%5 == 0 {
				checkStays(t, e, c, impl.EnDown)
			}
		}
	}
	for i, e := range wrongEngines() {
		for j, c := range crashes() {
			if (i+j)%9 == 0 {
				checkEngineBad(t, e, c)
			}
		}
	}
}

func TestP17TornByHand(t *testing.T) {
	row := "\x03\x01\x01\x02\x07\x00\x0d\x00"
	e := upEngine(diskOf(30, fileOf(5, "ab", "cde")), impl.Books{}, 4, 2)
	for keep := -3; keep < 20; keep++ {
		// Of each file so many bytes are kept.
		kept := min(max(keep, 0), 8)
		checkEngine(t, e, tornCall([]byte{1, 1, 2}, keep), downOn(diskOf(30, fileOf(4, row[:kept], ""), fileOf(5, "abcde"[:2+min(kept, 3)], ""))))
		// Behind what was late already.
		late := upEngine(diskOf(30, fileOf(5, "ab", "cde")), impl.Books{}, 5, 2)
		kept = min(max(keep, 0), 11)
		checkEngine(t, late, tornCall([]byte{1, 1, 2}, keep), downOn(diskOf(30, fileOf(5, ("abcde" + row)[:2+kept], ""))))
	}
	// What is no command, what is refused, and what has no room leaves nothing to tear.
	for _, b := range [][]byte{nil, {1, 1}, {1, 1, 2, 0}, {1, 1, 5}, {99}, make([]byte, 201)} {
		checkEngine(t, e, tornCall(b, 60000), downOn(diskOf(30, fileOf(5, "abcde", ""))))
	}
	less := upEngine(diskOf(12, fileOf(5, "ab", "cde")), impl.Books{}, 4, 2)
	checkEngine(t, less, tornCall([]byte{1, 1, 2}, 60000), downOn(diskOf(12, fileOf(5, "abcde", ""))))
	less.Disk.Room = 13
	checkEngine(t, less, tornCall([]byte{1, 1, 2}, 60000), downOn(diskOf(13, fileOf(4, row, ""), fileOf(5, "abcde", ""))))
}

// The record of a torn write stands where that of a submit would: behind a full segment in the next one, or nowhere.
func TestP17TornInTheNextSegment(t *testing.T) {
	b := newAccount()
	row := rowOf(string(b))
	for seg := range 20 {
		full := fileOf(seg, rowOf(sixRecords()...), "")
		next, behind := (seg+1)%20, (seg+2)%20
		for keep := range len(row) + 2 {
			e := upEngine(diskOf(60000, full), smallBooks(), seg, 6)
			checkEngine(t, e, tornCall(b, keep), downOn(withFile(e.Disk, fileOf(next, row[:min(keep, len(row))], ""))))
			for _, there := range []int{next, behind} {
				stays := upEngine(withFile(e.Disk, fileOf(there, "", "")), smallBooks(), seg, 6)
				checkEngine(t, stays, tornCall(b, keep), downOn(stays.Disk))
			}
			e.Count = 5
			checkEngine(t, e, tornCall(b, keep), downOn(withFile(e.Disk, fileOf(seg, full.Safe+row[:min(keep, len(row))], ""))))
		}
	}
}

// Each command that is done, torn at each byte: opened, it has the books ahead of it, or behind it where all of it was kept.
func TestP17TornIsThereWholeOrNotAtAll(t *testing.T) {
	for i, c := range slices.Concat(doneCharts(), doneMoves(), doneCorps()) {
		b := bytesOf(c.call)
		size := len(rowOf(string(b)))
		for count := range 7 {
			e, _ := impl.EngineSave(upEngine(diskOf(60000), c.given, i%20, 0))
			for more := range count {
				// None of these commands asks for an account of such a number.
				e, _, _ = impl.EngineSubmit(e, bytesOf(accountCall(900+more, impl.Rounder)))
			}
			if e.Count != count {
				t.Fatalf("with %d more accounts it is %s", count, engineText(e))
			}
			want, _, code := impl.EngineSubmit(e, b)
			if code != impl.EnDone {
				t.Fatalf("%v of %s is %d", c.call, engineText(e), code)
			}
			for keep := -1; keep < size+3; keep++ {
				down, _ := impl.EngineTorn(e, b, keep)
				up, _ := impl.EngineOpen(down)
				if keep >= size {
					checkEngine(t, down, openCall(), enAnswer{engine: want})
				} else if !sameBooks(up.Books, e.Books) {
					t.Errorf("%v torn at %d of %s comes to %s", c.call, keep, engineText(e), engineText(up))
				}
			}
		}
	}
}

func TestP17TornSaveByHand(t *testing.T) {
	text := "\x07\x13\x00\x00\x00\x00\x00\x00\x1a\x00\xa1\x00"
	seg, old := fileOf(4, "a", "bc"), fileOf(21, "ol", "d")
	e := upEngine(diskOf(40, seg, old), impl.Books{}, 18, 2)
	for keep := -2; keep < 16; keep++ {
		safe, kept := fileOf(4, "abc"[:1+min(max(keep, 0), 2)], ""), fileOf(21, "old"[:2+min(max(keep, 0), 1)], "")
		for _, steps := range append(noSteps()[:5], 0, 5, 6, 8, 1<<32, 1<<32+3, 60000) {
			checkEngine(t, e, tornSaveCall(steps, keep), downOn(diskOf(40, safe, kept)))
		}
		checkEngine(t, e, tornSaveCall(1, keep), downOn(diskOf(40, safe, fileOf(20, text[:min(max(keep, 0), 12)], ""), kept)))
		checkEngine(t, e, tornSaveCall(2, keep), downOn(diskOf(40, safe, fileOf(20, text, ""), kept)))
		checkEngine(t, e, tornSaveCall(3, keep), downOn(diskOf(40, safe, fileOf(21, text, ""))))
		checkEngine(t, e, tornSaveCall(4, keep), downOn(diskOf(40, fileOf(21, text, ""))))
	}
}

// Without room not one step is done, also not on a new save that was left: that is neither dropped nor made safe nor moved.
func TestP17TornSaveWithoutRoom(t *testing.T) {
	seg, left, old := fileOf(4, "a", "bc"), fileOf(20, "ne", "w"), fileOf(21, "ol", "d")
	for steps := -1; steps <= 6; steps++ {
		e := upEngine(diskOf(17, seg, left, old), impl.Books{}, 18, 2)
		checkEngine(t, e, tornSaveCall(steps, 0), downOn(diskOf(17, fileOf(4, "a", ""), fileOf(20, "ne", ""), fileOf(21, "ol", ""))))
		checkEngine(t, e, tornSaveCall(steps, 1), downOn(diskOf(17, fileOf(4, "ab", ""), fileOf(20, "new", ""), fileOf(21, "old", ""))))
		e.Disk.Files = []impl.File{seg, old}
		checkEngine(t, e, tornSaveCall(steps, 0), downOn(diskOf(17, fileOf(4, "a", ""), fileOf(21, "ol", ""))))
	}
	// With one byte more there is room, whatever was left.
	e := upEngine(diskOf(18, seg, left, old), impl.Books{}, 18, 2)
	text := packedSave(t, saveOf(19, impl.Books{}))
	checkEngine(t, e, tornSaveCall(2, 0), downOn(diskOf(18, fileOf(4, "a", ""), fileOf(20, text, ""), fileOf(21, "ol", ""))))
	for _, e := range upEngines() {
		for steps := -1; steps <= 6; steps++ {
			for _, keep := range []int{-1, 0, 1, 7, 60000} {
				full := tight(e)
				checkEngineByWords(t, full, tornSaveCall(steps, keep))
			}
		}
	}
}

// savedLater are engines that were saved, with some of the row behind it.
func savedLater(t *testing.T, cut int, from int) impl.Engine {
	t.Helper()
	e := impl.EngineNew(60000)
	for range from {
		e, _ = impl.EngineSave(e)
	}
	for i, record := range recordsOf(smallRow()...) {
		if i == cut {
			e, _ = impl.EngineSave(e)
		}
		next, _, code := impl.EngineSubmit(e, []byte(record))
		if code != impl.EnDone {
			t.Fatalf("record %d of %s is %d", i, engineText(e), code)
		}
		e = next
	}
	return e
}

// Torn behind any step and at any byte, a save that is opened has the books that it had; from the third step on they are its own.
func TestP17TornSaveHasTheBooks(t *testing.T) {
	for cut := range 21 {
		e := savedLater(t, cut, cut)
		text := packedSave(t, saveBehind(e))
		for steps := range 6 {
			for keep := 0; keep < len(text)+2; keep += 1 + len(text)/20*min(cut, 1) {
				down, code := impl.EngineTornSave(e, steps, keep)
				up, opened := impl.EngineOpen(down)
				if code != impl.EnDone || opened != impl.EnDone || !sameBooks(up.Books, e.Books) || fileThere(up.Disk, 20) {
					t.Errorf("torn behind %d steps at %d it is %d, %d: %s; want the books of %s", steps, keep, code, opened, engineText(up), engineText(e))
				}
				saved, _ := impl.EngineSave(e)
				if steps == 3 || steps == 4 {
					checkEngine(t, down, openCall(), enAnswer{engine: saved})
				} else {
					checkEngine(t, down, openCall(), enAnswer{engine: e})
				}
			}
		}
	}
	// What is submitted behind it is there, too.
	for steps := range 6 {
		down, _ := impl.EngineTornSave(savedLater(t, 8, 19), steps, 9)
		up, _ := impl.EngineOpen(down)
		next, _, code := impl.EngineSubmit(up, newAccount())
		down, _ = impl.EngineCrash(next, 0)
		again, _ := impl.EngineOpen(down)
		if want, _, _ := accountCall(777, impl.Rounder).want(smallBooks()); code != impl.EnDone || !sameBooks(again.Books, want) || !sameEngine(again, next) {
			t.Errorf("behind %d steps and one more account it is %s", steps, engineText(again))
		}
	}
}

// A crash of what is all safe turns nothing on the disk, whatever is kept.
func TestP17CrashOfWhatIsSafe(t *testing.T) {
	for cut := range 21 {
		e := savedLater(t, cut, 3)
		for _, f := range e.Disk.Files {
			if f.Late != "" || strings.Count(f.Safe, "") < 2 {
				t.Errorf("behind submits and a save there is %s", fileText(f))
			}
		}
		for _, keep := range keeps() {
			checkEngine(t, e, crashCall(keep), downOn(e.Disk))
		}
	}
}
