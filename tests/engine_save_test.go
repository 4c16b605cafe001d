package tests

import (
	"slices"
	"testing"

	"loop.example/g00110/impl"
)

func TestP17SaveByHand(t *testing.T) {
	text := "\x07\x13\x00\x00\x00\x00\x00\x00\x1a\x00\xa1\x00"
	done := enAnswer{engine: upEngine(diskOf(40, fileOf(21, text, "")), impl.Books{}, 19, 0)}
	for _, d := range []impl.Disk{
		diskOf(40), diskOf(40, fileOf(18, "a", "b")), diskOf(40, fileOf(19, "a", "b")), diskOf(40, fileOf(20, "c", "d")), diskOf(40, fileOf(21, "e", "f")),
		diskOf(40, fileOf(0, "", "a"), fileOf(18, "b", ""), fileOf(19, "", ""), fileOf(20, "c", "d"), fileOf(21, "e", "f")),
	} {
		for count := range 7 {
			checkEngine(t, upEngine(d, impl.Books{}, 18, count), saveCall(), done)
		}
	}
	checkStays(t, upEngine(diskOf(11), impl.Books{}, 18, 3), saveCall(), impl.EnFull)
	checkStays(t, impl.Engine{Disk: diskOf(40)}, saveCall(), impl.EnDown)
	checkEngineBad(t, upEngine(diskOf(40), impl.Books{}, 20, 0), saveCall())
	// Behind the last segment the save is from the first one on.
	first := "\x07\x00\x00\x00\x00\x00\x00\x00\x07\x00\x1c\x00"
	checkEngine(t, upEngine(diskOf(12), impl.Books{}, 19, 6), saveCall(), enAnswer{engine: upEngine(diskOf(12, fileOf(21, first, "")), impl.Books{}, 0, 0)})
}

// Whatever is saved, no segment is left, and the save is of these books, from the segment behind Seg on.
func TestP17SaveOfManyBooks(t *testing.T) {
	for i, b := range savedBooks() {
		for seg := i % 3; seg < 20; seg += 3 {
			for _, rest := range [][]impl.File{{}, segKinds()[2], segKinds()[3], {fileOf(20, "n", "o"), fileOf(21, "p", "q")}} {
				e := upEngine(diskOf(60000, rest...), b, seg, (seg+i)%7)
				want := saveOf((seg+1)%20, b)
				checkEngine(t, e, saveCall(), enAnswer{engine: upEngine(diskOf(60000, fileOf(21, packedSave(t, want), "")), b, (seg+1)%20, 0)})
				saved, _ := impl.EngineSave(e)
				checkSaveLoad(t, saved.Disk, want, true)
			}
		}
	}
}

// Beside all files but a new save that was left there must be room for the text: just as much, and one byte less.
func TestP17SaveRoom(t *testing.T) {
	for i, b := range []impl.Books{{}, smallBooks(), someBooks(), fullBooks()} {
		text := packedSave(t, saveOf(i+1, b))
		for _, segs := range segKinds() {
			for _, save := range fileKinds(21) {
				rest := slices.Concat(segs, save)
				room := len(rowOfFiles(diskOf(0, rest...))) + len(text)
				for _, left := range append(fileKinds(20), []impl.File{fileOf(20, text[:5], text[5:])}) {
					files := slices.Concat(segs, left, save)
					enough := upEngine(diskOf(max(room, len(rowOfFiles(diskOf(0, files...)))), files...), b, i, 2)
					checkEngine(t, enough, saveCall(), enAnswer{engine: upEngine(diskOf(enough.Disk.Room, fileOf(21, text, "")), b, i+1, 0)})
					if less := upEngine(diskOf(room-1, files...), b, i, 2); impl.DiskOk(less.Disk) {
						checkStays(t, less, saveCall(), impl.EnFull)
					}
				}
			}
		}
	}
	checkStays(t, impl.EngineNew(0), saveCall(), impl.EnFull)
	checkStays(t, impl.EngineNew(11), saveCall(), impl.EnFull)
	checkEngineByWords(t, impl.EngineNew(12), saveCall())
}

func TestP17SavesByTheWords(t *testing.T) {
	codes := map[int]int{}
	for _, e := range slices.Concat(upEngines(), downEngines(), wrongEngines()) {
		checkEngineByWords(t, e, saveCall())
		got := saveCall().do(e)
		codes[got.code]++
		if got.code == impl.EnDone {
			checkEngineByWords(t, got.engine, saveCall())
			checkEngineByWords(t, got.engine, submitCall(newAccount()))
		}
	}
	for _, e := range downEngines() {
		checkStays(t, e, saveCall(), impl.EnDown)
	}
	for _, e := range wrongEngines() {
		checkEngineBad(t, e, saveCall())
	}
	if codes[impl.EnDone] < 40 || codes[impl.EnFull] < 40 || codes[impl.EnDown] < 40 || codes[impl.EnBad] < 100 || len(codes) != 4 {
		t.Error("the saves are too much alike", codes)
	}
}

// What is saved, crashes and is opened has the books that it had, and goes on where it was.
func TestP17SavedBooksAreThereBehindACrash(t *testing.T) {
	saved := 0
	for _, e := range upEngines() {
		next, code := impl.EngineSave(e)
		if code != impl.EnDone {
			continue
		}
		saved++
		for _, keep := range keeps() {
			checkEngine(t, next, crashCall(keep), enAnswer{engine: impl.Engine{Disk: next.Disk}})
			down, _ := impl.EngineCrash(next, keep)
			checkEngine(t, down, openCall(), enAnswer{engine: next})
		}
	}
	if saved < 40 {
		t.Error("too few are saved", saved)
	}
}

// A save can be done again and again, as it goes round all segments; each time the disk has that one alone.
func TestP17SavesInARow(t *testing.T) {
	e := upEngine(diskOf(60000), smallBooks(), 7, 3)
	for i := range 50 {
		want := upEngine(diskOf(60000, fileOf(21, packedSave(t, saveOf((8+i)%20, smallBooks())), "")), smallBooks(), (8+i)%20, 0)
		checkEngine(t, e, saveCall(), enAnswer{engine: want})
		e, _ = impl.EngineSave(e)
	}
}
