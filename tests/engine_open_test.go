package tests

import (
	"slices"
	"strings"
	"testing"

	"loop.example/g00110/impl"
)

// checkOpened opens what is down with that disk, and wants what is up then; crashed and opened again it is just the same.
func checkOpened(t *testing.T, d impl.Disk, want impl.Engine) {
	t.Helper()
	down := impl.Engine{Disk: d}
	checkEngine(t, down, openCall(), enAnswer{engine: want})
	checkEngineByWords(t, down, openCall())
	for _, keep := range []int{-1, 0, 60000} {
		checkOpenedAgain(t, down, keep)
	}
}

// checkOpenedAgain opens an engine that is down, lets it crash and opens it again: all is as it was.
func checkOpenedAgain(t *testing.T, down impl.Engine, keep int) {
	t.Helper()
	up, code := impl.EngineOpen(down)
	crashed, crashCode := impl.EngineCrash(up, keep)
	again, againCode := impl.EngineOpen(crashed)
	if code != impl.EnDone || crashCode != impl.EnDone || againCode != impl.EnDone || !sameBooks(again.Books, up.Books) || !sameEngine(again, up) {
		t.Errorf("%s opened is %d, %s; crashed %d, opened again %d, %s", engineText(down), code, engineText(up), crashCode, againCode, engineText(again))
	}
}

func TestP17OpenByHand(t *testing.T) {
	one, two := "\x03\x01\x01\x02\x07\x00\x0d\x00", "\x03\x01\x02\x01\x07\x00\x0e\x00"
	books := impl.Books{Accounts: chartOf(1, impl.Issuer)}
	both := impl.Books{Accounts: chartOf(1, impl.Issuer, 2, impl.Holder)}
	save := "\x09\x03\x01\x01\x02\x00\x00\x00\x00\x00\x10\x00\x63\x00"
	checkOpened(t, diskOf(50, fileOf(0, one, "")), upEngine(diskOf(50, fileOf(0, one, "")), books, 0, 1))
	checkOpened(t, diskOf(50, fileOf(0, one+two, "")), upEngine(diskOf(50, fileOf(0, one+two, "")), both, 0, 2))
	checkOpened(t, diskOf(50, fileOf(0, one, ""), fileOf(1, two, "")), upEngine(diskOf(50, fileOf(0, one, ""), fileOf(1, two, "")), both, 1, 1))
	checkOpened(t, diskOf(50, fileOf(0, one+two[:7], "")), upEngine(diskOf(50, fileOf(0, one, "")), books, 0, 1))
	checkOpened(t, diskOf(50, fileOf(0, one, ""), fileOf(2, two, "")), upEngine(diskOf(50, fileOf(0, one, "")), books, 0, 1))
	checkOpened(t, diskOf(50, fileOf(1, one, "")), upEngine(diskOf(50), impl.Books{}, 0, 0))
	checkOpened(t, diskOf(50, fileOf(21, save, "")), upEngine(diskOf(50, fileOf(21, save, "")), books, 3, 0))
	checkOpened(t, diskOf(50, fileOf(3, two, ""), fileOf(21, save, "")), upEngine(diskOf(50, fileOf(3, two, ""), fileOf(21, save, "")), both, 3, 1))
	checkOpened(t, diskOf(50, fileOf(0, two, ""), fileOf(20, one, ""), fileOf(21, save, "")), upEngine(diskOf(50, fileOf(21, save, "")), books, 3, 0))
	checkStays(t, upEngine(diskOf(50), impl.Books{}, 0, 0), openCall(), impl.EnRefused)
	checkEngineBad(t, impl.Engine{Disk: diskOf(50), Count: 1}, openCall())
}

func TestP17OpenThatIsRefused(t *testing.T) {
	for _, e := range upEngines() {
		checkStays(t, e, openCall(), impl.EnRefused)
	}
	for _, e := range wrongEngines() {
		checkEngineBad(t, e, openCall())
	}
}

// With no segments from 0 on there are new books, whatever else is there, but for a save.
func TestP17OpenOfNothing(t *testing.T) {
	for _, room := range []int{0, 1, 100, 60000} {
		checkOpened(t, diskOf(room), upEngine(diskOf(room), impl.Books{}, 0, 0))
		checkOpened(t, diskOf(room, fileOf(20, "", "")), upEngine(diskOf(room), impl.Books{}, 0, 0))
		checkOpened(t, diskOf(room, fileOf(21, "", "")), upEngine(diskOf(room, fileOf(21, "", "")), impl.Books{}, 0, 0))
	}
	row := rowOf(recordsOf(smallRow()[:3]...)...)
	for seg := 1; seg < 20; seg++ {
		checkOpened(t, diskOf(900, fileOf(seg, row, "")), upEngine(diskOf(900), impl.Books{}, 0, 0))
	}
	checkOpened(t, diskOf(900, segsOf(1, recordsOf(smallRow()...))...), upEngine(diskOf(900), impl.Books{}, 0, 0))
	// A segment that is there and has nothing is the one that is written.
	checkOpened(t, diskOf(900, fileOf(0, "", ""), fileOf(1, "", ""), fileOf(3, "", "")), upEngine(diskOf(900, fileOf(0, "", ""), fileOf(1, "", "")), impl.Books{}, 1, 0))
}

func TestP17OpenOfASaveAlone(t *testing.T) {
	for i, b := range savedBooks() {
		for from := i % 4; from < 20; from += 4 {
			d := diskOf(60000, fileOf(21, packedSave(t, saveOf(from, b)), ""))
			checkOpened(t, d, upEngine(d, b, from, 0))
			// Segments that are none of those from there on are cleared, and a new save that was left is dropped.
			more := diskOf(60000, fileOf((from+19)%20, rowOf(string(newAccount())), ""), fileOf((from+1)%20, rowOf(string(newAccount())), ""))
			more = withFile(withFile(more, d.Files[0]), fileOf(20, packedSave(t, impl.Save{From: 9}), ""))
			checkOpened(t, more, upEngine(d, b, from, 0))
		}
	}
}

// What is in the file of the save and is none stays there, and there are new books from 0 on.
func TestP17OpenOfNoSave(t *testing.T) {
	text, row := packedSave(t, saveOf(7, smallBooks())), recordsOf(smallRow()...)
	segs := slices.Concat(segsOf(0, row[:8]), segsOf(7, row))
	books, _ := wantRun(impl.BooksNew(), smallRow()[:8])
	for _, wrong := range []string{"", "x", text[:len(text)-1], text + "\x00", text[1:], rowOf("a"), savedAs([]byte{20}, booksBytes(smallBooks())), savedAs([]byte{7}, booksBytes(smallBooks()), []byte{0})} {
		save := fileOf(21, wrong, "")
		checkOpened(t, diskOf(60000, append(slices.Clone(segs), save)...), upEngine(diskOf(60000, append(segsOf(0, row[:8]), save)...), books, 1, 2))
	}
	// Not even a whole new save is one.
	checkOpened(t, diskOf(60000, append(slices.Clone(segs), fileOf(20, text, ""))...), upEngine(diskOf(60000, segsOf(0, row[:8])...), books, 1, 2))
}

func booksBytes(b impl.Books) []byte {
	bytes, _ := wantBooksPack(b)
	return bytes
}

// Each beginning of a row, six records to each segment.
func TestP17OpenOfSegmentsAlone(t *testing.T) {
	records := recordsOf(smallRow()...)
	for n := range 21 {
		d := diskOf(60000, segsOf(0, records[:n])...)
		books, _ := wantRun(impl.BooksNew(), smallRow()[:n])
		checkOpened(t, d, upEngine(d, books, max(n-1, 0)/6, n-max(n-1, 0)/6*6))
		// The next segment may be there, and have nothing yet.
		empty := withFile(d, fileOf((n+5)/6, "", ""))
		checkOpened(t, empty, upEngine(empty, books, (n+5)/6, 0))
	}
	// One record to each segment, and one segment with none.
	for empty := range 20 {
		d := diskOf(60000, fileOf(empty, "", ""))
		for seg, record := range records {
			if seg != empty {
				d = withFile(d, fileOf(seg, rowOf(record), ""))
			}
		}
		checkOpened(t, d, upEngine(d, firstDone(without(smallRow(), empty)), 19, 1-empty/19))
	}
}

// firstDone are the books of a row up to the first command that is refused.
func firstDone(list []impl.Cmd) impl.Books {
	b := impl.BooksNew()
	for _, c := range list {
		next, reply := wantApply(b, c)
		if reply.Code != impl.BkDone {
			break
		}
		b = next
	}
	return b
}

// A save at each point of a row, and the rest of the row behind it, from each segment on.
func TestP17OpenOfASaveAndSegments(t *testing.T) {
	records := recordsOf(smallRow()...)
	for cut := range 21 {
		saved, _ := wantRun(impl.BooksNew(), smallRow()[:cut])
		for from := range 20 {
			for _, end := range []int{cut, min(cut+6, 20), min(cut+7, 20), 20} {
				n := end - cut
				books, _ := wantRun(impl.BooksNew(), smallRow()[:end])
				d := withFile(diskOf(60000, segsOf(from, records[cut:end])...), fileOf(21, packedSave(t, saveOf(from, saved)), ""))
				want := upEngine(d, books, (from+max(n-1, 0)/6)%20, n-max(n-1, 0)/6*6)
				checkOpened(t, d, want)
				// What stands ahead of it, and behind a gap, is of an older save.
				more := d
				for seg := range 20 {
					if !fileThere(d, seg) && seg != (from+(n+5)/6)%20 {
						more = withFile(more, fileOf(seg, rowOf(records[:3]...), ""))
					}
				}
				checkOpened(t, withFile(more, fileOf(20, "left", "")), want)
			}
		}
	}
}

// All segments are there: from any one on they are read once round, and the last one is the one ahead of it.
func TestP17OpenOfAllSegments(t *testing.T) {
	row := longRow(120)
	records := recordsOf(row...)
	books, _ := wantRun(impl.BooksNew(), row)
	for from := range 20 {
		d := withFile(diskOf(60000, segsOf(from, records)...), fileOf(21, packedSave(t, saveOf(from, impl.BooksNew())), ""))
		checkOpened(t, d, upEngine(d, books, (from+19)%20, 6))
		d = withFile(d, fileOf((from+19)%20, rowOf(records[114:117]...), ""))
		part, _ := wantRun(impl.BooksNew(), row[:117])
		checkOpened(t, d, upEngine(d, part, (from+19)%20, 3))
	}
}

// The last record is torn at each byte, or has a byte that was turned: it is cut off.
func TestP17OpenOfATornRecord(t *testing.T) {
	records := recordsOf(smallRow()...)
	for n := 1; n <= 20; n++ {
		whole := diskOf(60000, segsOf(0, records[:n])...)
		last := whole.Files[len(whole.Files)-1]
		mended := fileOf(last.Name, last.Safe[:len(last.Safe)-len(rowOf(records[n-1]))], "")
		books, _ := wantRun(impl.BooksNew(), smallRow()[:n-1])
		want := upEngine(withFile(whole, mended), books, last.Name, (n-1)%6)
		for size := len(mended.Safe); size < len(last.Safe); size++ {
			checkOpened(t, withFile(whole, fileOf(last.Name, last.Safe[:size], "")), want)
			if size == len(mended.Safe) {
				continue
			}
			turned := []byte(last.Safe)
			turned[size] ^= 0x41
			checkOpened(t, withFile(whole, fileOf(last.Name, string(turned), "")), want)
		}
		for _, more := range []string{"\x00", "\x01", "\xff", "torn", "\x7f" + strings.Repeat("x", 100), strings.Repeat("\x80", 12)} {
			torn := withFile(whole, fileOf(last.Name, last.Safe+more, ""))
			done, _ := wantRun(impl.BooksNew(), smallRow()[:n])
			checkOpened(t, torn, upEngine(whole, done, last.Name, (n-1)%6+1))
		}
	}
}

// A torn record ends its own segment alone: those behind it are read on, and all of them are mended.
func TestP17OpenOfATornRecordAmidSegments(t *testing.T) {
	accounts := []string{}
	for no := 1; no < 19; no++ {
		accounts = append(accounts, string(bytesOf(accountCall(no, impl.Dealer))))
	}
	for torn := range 18 {
		d, want := diskOf(60000), upEngine(diskOf(60000), impl.Books{}, 2, 6)
		for seg := range 3 {
			list := accounts[6*seg : 6*seg+6]
			kept := list
			row := rowOf(list...)
			if torn/6 == seg {
				kept = list[:torn%6]
				row = rowOf(kept...) + rowOf(list[torn%6:]...)[1:]
			}
			d = withFile(d, fileOf(seg, row, ""))
			want.Disk = withFile(want.Disk, fileOf(seg, rowOf(kept...), ""))
			for i := range kept {
				want.Books.Accounts = append(want.Books.Accounts, impl.Account{No: 6*seg + i + 1, Kind: impl.Dealer})
			}
			want.Count = len(kept)
		}
		checkOpened(t, d, want)
	}
}

// Behind a record that is whole, but no command or one that is refused, nothing is done; it is there still, and counts.
func TestP17OpenOfARecordThatIsNotDone(t *testing.T) {
	records := recordsOf(smallRow()...)
	wrong := []string{
		"", "x", "\x63", "\x06", "\x06\x01\x00", string(newAccount()) + "\x00", string(newAccount()[:2]), strings.Repeat("\x06", 300), strings.Repeat("r", 9000),
		string(bytesOf(accountCall(1, impl.Issuer))), string(bytesOf(accountCall(0, 1))), string(bytesOf(cancelCall(999))), string(bytesOf(moveCall(2, 3, 7, top, 1))), string(bytesOf(issueCall(900, 2, 7, 1, 1))),
	}
	for n := 1; n <= 20; n++ {
		books, _ := wantRun(impl.BooksNew(), smallRow()[:n])
		for _, w := range wrong {
			row := slices.Insert(slices.Clone(records), n, w)
			d := diskOf(60000, segsOf(0, row)...)
			checkOpened(t, d, upEngine(d, books, 3, 3))
			// Two of them, and one in the last place.
			row = append(slices.Insert(row, n, w), w)
			d = diskOf(60000, segsOf(0, row)...)
			checkOpened(t, d, upEngine(d, books, 3, 5))
		}
	}
	// The first one of all: there are the books of the save, or new ones.
	for _, w := range wrong {
		row := append([]string{w}, records...)
		d := withFile(diskOf(60000, segsOf(5, row)...), fileOf(21, packedSave(t, saveOf(5, smallBooks())), ""))
		checkOpened(t, d, upEngine(d, smallBooks(), 8, 3))
		if d = diskOf(60000, segsOf(0, row)...); w != records[0] {
			checkOpened(t, d, upEngine(d, impl.BooksNew(), 3, 3))
		}
	}
}

// Of a segment with more records than there may be those behind the sixth are cut off, and not done.
func TestP17OpenOfTooManyRecords(t *testing.T) {
	records := recordsOf(smallRow()...)
	books, _ := wantRun(impl.BooksNew(), smallRow()[:6])
	for n := 6; n <= 20; n++ {
		want := upEngine(diskOf(60000, fileOf(0, rowOf(records[:6]...), "")), books, 0, 6)
		checkOpened(t, diskOf(60000, fileOf(0, rowOf(records[:n]...), "")), want)
		checkOpened(t, diskOf(60000, fileOf(0, rowOf(records[:n]...)+"torn", "")), want)
	}
	// The next segment goes on with the seventh one.
	next, _ := wantRun(impl.BooksNew(), smallRow()[:9])
	d := diskOf(60000, fileOf(0, rowOf(append(slices.Clone(records[:6]), "x", "y")...), ""), fileOf(1, rowOf(records[6:9]...), ""))
	checkOpened(t, d, upEngine(diskOf(60000, segsOf(0, records[:9])...), next, 1, 3))
}

func TestP17OpensByTheWords(t *testing.T) {
	for _, e := range downEngines() {
		checkEngineByWords(t, e, openCall())
		checkOpenedAgain(t, e, 0)
	}
	for _, e := range upEngines() {
		for _, keep := range []int{0, 3, 60000} {
			down, _ := impl.EngineCrash(e, keep)
			checkEngineByWords(t, down, openCall())
			checkOpenedAgain(t, down, keep)
		}
	}
}

// Drawn disks of segments with records that are done, refused, none or torn, with saves and without.
func TestP17OpensOfDrawnDisks(t *testing.T) {
	records := append(recordsOf(smallRow()...), recordsOf(cmdsOf(doneCalls()...)...)...)
	saves := fewSaves()
	counts := [3]int{}
	for seed := range 1500 {
		roll := dice(seed)
		d, at := diskOf(60000), roll(len(records))
		from := []int{0, roll(20)}[roll(2)]
		for range roll(8) {
			row := []string{}
			for range roll(8) {
				if roll(9) == 0 {
					at = roll(len(records))
				}
				row = append(row, records[at%len(records)])
				at++
			}
			text := rowOf(row...)
			if roll(6) == 0 {
				text = text[:roll(len(text)+1)]
			}
			d = withFile(d, fileOf(from, text, ""))
			from = (from + 1 + roll(12)/11) % 20
		}
		if roll(2) == 0 {
			s := saves[roll(len(saves))]
			s.From = []int{0, roll(20), (from + 18) % 20}[roll(3)]
			d = withFile(d, fileOf(21, packedSave(t, s), ""))
		}
		down := impl.Engine{Disk: d}
		checkEngineByWords(t, down, openCall())
		checkOpenedAgain(t, down, roll(30))
		up, _ := impl.EngineOpen(down)
		counts[min(len(impl.SegsFrom(up.Disk, up.Seg)), 1)]++
		if up.Books.Lot > 0 {
			counts[2]++
		}
	}
	if slices.Min(counts[:]) < 150 {
		t.Error("the disks are too much alike", counts)
	}
}
