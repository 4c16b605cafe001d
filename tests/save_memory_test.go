package tests

import (
	"fmt"
	"slices"
	"testing"

	"loop.example/g00110/impl"
)

// saveTurns are all calls with a save that turn a disk, such that are done and such that are refused.
func saveTurns(s impl.Save) []diskTurn {
	calls := []diskTurn{saveWriteCall{s}}
	for k := -1; k <= 4; k++ {
		calls = append(calls, saveStepCall{s, k})
	}
	return calls
}

func TestP22SavesAnswerAtAnything(t *testing.T) {
	for _, d := range slices.Concat(oddDisks(), wrongDisks(), wrongSegDisks(), rightDisks(), badSaveDisks("x"), saveDisks()[:20]) {
		checkSaveLoadByWords(t, d)
		for _, s := range []impl.Save{{}, saveOf(19, smallBooks()), saveOf(-1, smallBooks()), saveOf(20, impl.BooksNew()), saveOf(3, wrongBooksByHand()[0])} {
			checkDiskByWords(t, d, saveWriteCall{s})
			for _, k := range append(noSteps(), 0, 1, 2, 3) {
				checkDiskByWords(t, d, saveStepCall{s, k})
			}
		}
	}
	for _, b := range oddBooks() {
		for _, from := range append(noSegs(), 0, 19) {
			s := saveOf(from, b)
			want, ok := wantSavePack(s)
			checkSavePack(t, s, want, ok)
			for _, d := range []impl.Disk{{}, diskOf(60000), ableDisk(), wrongDisks()[0]} {
				for _, c := range saveTurns(s) {
					checkDiskByWords(t, d, c)
				}
			}
		}
	}
	for _, b := range oddBooksBytes() {
		checkSaveLoadByWords(t, diskOf(60000, fileOf(21, string(b[:min(len(b), 60000)]), "")))
		if len(b) < 9000 {
			checkSaveLoadByWords(t, diskOf(60000, fileOf(21, savedAs(b), "")))
			checkSaveLoadByWords(t, diskOf(60000, fileOf(21, "", savedAs([]byte{3}, b))))
		}
	}
}

func TestP22SavesWriteIntoNoFiles(t *testing.T) {
	saved := diskOf(60000, fileOf(3, "a", "b"), fileOf(20, "c", "d"), fileOf(21, packedSave(t, saveOf(5, smallBooks())), ""))
	disks := slices.Concat(rightDisks(), wrongDisks(), wrongSegDisks()[:8], saveDisks()[:60], []impl.Disk{ableDisk(), diskOf(60000, fullDisk().Files...), saved})
	for _, given := range disks {
		for _, s := range []impl.Save{{}, saveOf(19, someBooks()), saveOf(20, someBooks()), saveOf(1, wrongBooksByHand()[3])} {
			for _, c := range saveTurns(s) {
				checkDiskWrites(t, c, given, func(d impl.Disk) impl.Disk {
					next, _ := c.do(d)
					return next
				})
			}
		}
		checkDiskWrites(t, "SaveLoad", given, func(d impl.Disk) impl.Disk {
			impl.SaveLoad(d)
			return impl.Disk{}
		})
	}
}

// toldWith are the disks that all calls with a save tell, of one with little room and of one with much.
func toldWith(s impl.Save) []impl.Disk {
	disks := []impl.Disk{}
	for _, c := range saveTurns(s) {
		for _, d := range []impl.Disk{ableDisk(), diskOf(60000, ableDisk().Files...)} {
			next, _ := c.do(d)
			disks = append(disks, next)
		}
	}
	return disks
}

// The books of a save, and the room behind their lists, stay as they are, and nothing that is told turns with them.
func TestP22SavesWriteIntoNoBooks(t *testing.T) {
	for i, given := range slices.Concat(rightBooks(), wrongBooks(), wrongBooksByHand(), []impl.Books{handBooks().books, smallBooks(), mostBooks()}) {
		for _, from := range []int{i % 20, 20} {
			r, s := roomyBooks(given), saveOf(from, given)
			text, ok := impl.SavePack(saveOf(from, r.books))
			disks := toldWith(saveOf(from, r.books))
			if !r.kept(given) {
				t.Errorf("a call with %s writes into it: %v", saveText(s), r)
			}
			fillBooks(r.books, -5)
			checkSavePack(t, s, text, ok)
			if !slices.EqualFunc(disks, toldWith(s), sameDisk) {
				t.Errorf("what was told with %s turns with its books", saveText(s))
			}
		}
	}
}

func TestP22SavesAreNewEachTime(t *testing.T) {
	for _, d := range slices.Concat(rightDisks(), wrongDisks(), saveDisks()[:40], []impl.Disk{ableDisk(), diskOf(60000, fullDisk().Files...)}) {
		for _, s := range []impl.Save{{}, saveOf(19, smallBooks()), {From: 20}} {
			for _, c := range saveTurns(s) {
				checkNewLists(t, fmt.Sprint(c), func() []impl.File {
					next, _ := c.do(d)
					return next.Files
				}, fileOf(-6, "", "own"))
			}
		}
	}
}

// loadedList is one list of the books that a disk's save tells.
func loadedList[R any](d impl.Disk, list func(b impl.Books) []R) func() []R {
	return func() []R {
		s, _ := impl.SaveLoad(d)
		return list(s.Books)
	}
}

// Two saves that are read share nothing with each other, nor do two lists of one.
func TestP22LoadedSavesAreNewEachTime(t *testing.T) {
	for i, b := range savedBooks() {
		want := saveOf(i%20, b)
		text := packedSave(t, want)
		d := diskOf(60000, fileOf(21, text[:i%len(text)], text[i%len(text):]))
		checkNewLists(t, "SaveLoad", loadedList(d, func(b impl.Books) []impl.Account { return b.Accounts }), impl.Account{No: -6})
		checkNewLists(t, "SaveLoad", loadedList(d, func(b impl.Books) []impl.Instr { return b.Instrs }), impl.Instr{No: -6})
		checkNewLists(t, "SaveLoad", loadedList(d, func(b impl.Books) []impl.Bal { return b.Bals }), impl.Bal{Account: -6})
		checkNewLists(t, "SaveLoad", loadedList(d, func(b impl.Books) []impl.Lot { return b.Lots }), impl.Lot{Account: -6})
		checkNewLists(t, "SaveLoad", loadedList(d, func(b impl.Books) []impl.Trade { return b.Trades }), impl.Trade{No: -6})
		first, _ := impl.SaveLoad(d)
		fill(first.Books.Bals[:cap(first.Books.Bals)], impl.Bal{Account: -6})
		fill(first.Books.Instrs[:cap(first.Books.Instrs)], impl.Instr{No: -6})
		first.Books.Bals, first.Books.Instrs = want.Books.Bals, want.Books.Instrs
		if !sameSave(first, want) {
			t.Errorf("two lists of the save that is read of %s share memory", saveText(want))
		}
		checkSaveLoad(t, d, want, true)
	}
}
