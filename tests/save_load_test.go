package tests

import (
	"math"
	"slices"
	"strings"
	"testing"

	"loop.example/g00110/impl"
)

// wantSaveLoad asks at last whether what was read packs to just that text.
func wantSaveLoad(d impl.Disk) (impl.Save, bool) {
	text, there := wantDiskRead(d, 21)
	held, _, code := wantUnseal([]byte(text), 0)
	if !there || code != impl.SealWell || len(held) == 0 {
		return impl.Save{}, false
	}
	books, ok := wantBooksRead(held[1:])
	s := saveOf(int(held[0]), books)
	if again, right := wantSavePack(s); !ok || !right || again != text {
		return impl.Save{}, false
	}
	return s, true
}

func checkSaveLoad(t *testing.T, d impl.Disk, want impl.Save, wantOk bool) {
	t.Helper()
	if got, ok := impl.SaveLoad(d); !sameSave(got, want) || ok != wantOk {
		t.Errorf("SaveLoad(%s) = %s, %v; want %s, %v", diskText(d), saveText(got), ok, saveText(want), wantOk)
	}
}

func checkNoSave(t *testing.T, d impl.Disk) {
	t.Helper()
	checkSaveLoad(t, d, impl.Save{}, false)
}

// checkSaveLoadByWords also wants what is read to pack to just that text; it tells whether there is a save.
func checkSaveLoadByWords(t *testing.T, d impl.Disk) bool {
	t.Helper()
	want, ok := wantSaveLoad(d)
	checkSaveLoad(t, d, want, ok)
	if text, _ := impl.DiskRead(d, impl.FileSave); ok {
		checkSavePack(t, want, text, true)
	}
	return ok
}

// withSaved are disks whose save has just this text: as what is safe, as what is late and as both, alone and beside other files.
func withSaved(text string) []impl.Disk {
	half, room := len(text)/2, len(text)
	beside := []impl.File{fileOf(0, rowOf("a"), "b"), fileOf(19, "", "c"), fileOf(20, "d", "e")}
	list := []impl.Disk{}
	for _, f := range []impl.File{fileOf(21, text, ""), fileOf(21, "", text), fileOf(21, text[:half], text[half:])} {
		list = append(list, diskOf(room, f), diskOf(60000, append(slices.Clone(beside), f)...))
	}
	return list
}

func checkSaved(t *testing.T, text string, want impl.Save) {
	t.Helper()
	for _, d := range withSaved(text) {
		checkSaveLoad(t, d, want, true)
	}
}

// checkNotSaved wants a text to be of no save, wherever what is late of it begins.
func checkNotSaved(t *testing.T, text string) {
	t.Helper()
	for _, d := range withSaved(text) {
		checkNoSave(t, d)
	}
}

func TestP16LoadByHand(t *testing.T) {
	checkSaved(t, "\x07\x00\x00\x00\x00\x00\x00\x00\x07\x00\x1c\x00", impl.Save{})
	checkSaved(t, "\x07\x13\x00\x00\x00\x00\x00\x00\x1a\x00\xa1\x00", impl.Save{From: 19})
	checkSaved(t, "\x09\x03\x01\x01\x02\x00\x00\x00\x00\x00\x10\x00\x63\x00", saveOf(3, impl.Books{Accounts: chartOf(1, impl.Issuer)}))
	for _, p := range handPackedBooks() {
		for from := range 20 {
			checkSaved(t, savedAs([]byte{byte(from)}, p.bytes), saveOf(from, p.books))
		}
	}
}

func TestP16LoadIsTheSave(t *testing.T) {
	for i, b := range savedBooks() {
		for _, from := range []int{0, 19, i % 20} {
			s := saveOf(from, b)
			text, _ := impl.SavePack(s)
			checkSaved(t, text, s)
		}
	}
}

// Wherever what is late begins, the save is that of both together.
func TestP16LoadOfSafeAndLate(t *testing.T) {
	for _, s := range fewSaves() {
		text := packedSave(t, s)
		for n := range len(text) + 1 {
			checkSaveLoad(t, diskOf(len(text), fileOf(21, text[:n], text[n:])), s, true)
		}
	}
}

func TestP16LoadOfNothing(t *testing.T) {
	for _, d := range []impl.Disk{{}, diskOf(60000), diskOf(0, fileOf(21, "", "")), diskOf(60000, fileOf(21, "", "")), someDisk(), byteDisk(), fullDisk(), wideDisk(), ableDisk()} {
		checkNoSave(t, d)
	}
	for n := range 40 {
		checkNotSaved(t, strings.Repeat("\x00", n))
		checkNotSaved(t, strings.Repeat("\xff", n))
	}
	checkNotSaved(t, "no save at all")
	checkNotSaved(t, string(drawnBytes(5, 5000)))
}

func TestP16LoadOfATornSave(t *testing.T) {
	for _, s := range fewSaves() {
		text := packedSave(t, s)
		for n := range len(text) {
			checkNotSaved(t, text[:n])
			// Without its beginning, and without one byte amid it.
			checkSaveLoadByWords(t, diskOf(60000, fileOf(21, text[n+1:], "")))
			checkSaveLoadByWords(t, diskOf(60000, fileOf(21, text[:n]+text[n+1:], "")))
		}
	}
	for _, s := range someSaves() {
		text := packedSave(t, s)
		for n := range text {
			checkNoSave(t, diskOf(60000, fileOf(21, text[:n], "")))
		}
	}
}

func TestP16LoadWithAByteTurned(t *testing.T) {
	for _, s := range fewSaves() {
		text := packedSave(t, s)
		turned := []byte(text)
		for place := range turned {
			for by := 1; by < 256; by++ {
				turned[place] = text[place] + byte(by)
				checkNoSave(t, diskOf(60000, fileOf(21, string(turned[:place]), string(turned[place:]))))
			}
			turned[place] = text[place]
		}
	}
	for _, s := range someSaves()[len(fewSaves()):] {
		text := packedSave(t, s)
		turned := []byte(text)
		for place := range turned {
			for _, by := range []byte{1, 128, 255} {
				turned[place] = text[place] + by
				checkNoSave(t, diskOf(60000, fileOf(21, string(turned), "")))
			}
			turned[place] = text[place]
		}
	}
}

func TestP16LoadWithBytesBehind(t *testing.T) {
	for _, s := range someSaves() {
		text := packedSave(t, s)
		for _, more := range []string{"\x00", "\x01", "\x7f", "\x80", "\xff", "\n", "\x00\x00\x00\x00\x00", strings.Repeat("\x00", 300), rowOf("a"), text, text[:1], text[:len(text)-1]} {
			checkNotSaved(t, text+more)
			// What is safe is a save by itself, and what is late makes it none.
			checkNoSave(t, diskOf(60000, fileOf(21, text, more)))
			checkSaveLoadByWords(t, diskOf(60000, fileOf(21, more+text, "")))
		}
		checkNotSaved(t, "\x00"+text)
		checkNotSaved(t, rowOf("")+text)
	}
}

// A seal that is whole of a place that is no segment, or of no number at all.
func TestP16LoadFromNoSegment(t *testing.T) {
	for _, s := range someSaves() {
		books, _ := wantBooksPack(s.Books)
		for from := range 300 {
			text := savedAs(wantForm(from), books)
			if from < 20 {
				checkSaved(t, text, saveOf(from, s.Books))
			} else {
				checkNotSaved(t, text)
			}
		}
		for _, from := range []int{1 << 20, 1 << 32, 1<<32 + 3, 1<<56 + 3, 1 << 62, math.MaxInt} {
			checkNotSaved(t, savedAs(wantForm(from), books))
		}
		for from := range 20 {
			for _, long := range longForms(wantForm(from)) {
				checkNotSaved(t, savedAs(long, books))
			}
		}
		for _, long := range formsTooLong() {
			checkNotSaved(t, savedAs(long, books))
			checkNotSaved(t, savedAs(long))
		}
		// Without the place the books stand where they are not read.
		checkSaveLoadByWords(t, diskOf(60000, fileOf(21, savedAs(books), "")))
	}
	for from := range 256 {
		checkNotSaved(t, savedAs([]byte{byte(from)}))
	}
	checkNotSaved(t, savedAs())
}

// A seal that is whole of a segment and of what is no books.
func TestP16LoadOfNoBooks(t *testing.T) {
	for i, b := range slices.Concat(wrongBooks(), wrongBooksByHand(), tooLongBooks(), turnedBooks(someBooks())) {
		if nums := booksNums(b); slices.Min(nums) >= 0 {
			checkNotSaved(t, savedAs([]byte{byte(i % 20)}, wantForms(nums)))
		}
	}
	for _, p := range codedBooks() {
		for n := range p.bytes {
			checkNotSaved(t, savedAs([]byte{5}, p.bytes[:n]))
		}
		for _, behind := range [][]byte{{0}, {1}, {127}, {128}, {255}, {0, 0, 0, 0, 0, 0}, copiesOf(12, 255), p.bytes} {
			checkNotSaved(t, savedAs([]byte{5}, p.bytes, behind))
		}
		forms := booksForms(p.books)
		for place, form := range forms {
			checkNotSaved(t, savedAs([]byte{5}, withForm(forms, place, longForms(form)[0])))
		}
		// Sealed twice it is no save either.
		checkNotSaved(t, savedAs([]byte(packedSave(t, saveOf(5, p.books)))))
		checkSaved(t, savedAs([]byte{5}, p.bytes), saveOf(5, p.books))
	}
}

// A seal is read as Unseal reads it: not with a longer form of its length, and not with more bytes than it may have.
func TestP16LoadOfAWrongSeal(t *testing.T) {
	for _, s := range someSaves() {
		text := packedSave(t, s)
		_, from, _ := wantGetNum([]byte(text), 0)
		for _, long := range append(longForms([]byte(text[:from])), unreadLengths()...) {
			checkNotSaved(t, string(long)+text[from:])
		}
		checkNotSaved(t, text[from:])
		checkNotSaved(t, text[from:len(text)-4])
		checkNotSaved(t, text[:len(text)-4])
		checkNotSaved(t, text[:len(text)-4]+"\x00\x00\x00\x00")
	}
	for _, n := range []int{8994, 8999, 9000, 9001, 20000} {
		checkNotSaved(t, savedAs(make([]byte, n)))
		checkNotSaved(t, savedAs([]byte{3}, drawnBytes(n, n-1)))
	}
}

// A save stands in one file alone, whatever the others have.
func TestP16LoadOfOtherFiles(t *testing.T) {
	for i, s := range someSaves() {
		text := packedSave(t, s)
		for name := range 21 {
			for _, f := range []impl.File{fileOf(name, text, ""), fileOf(name, "", text), fileOf(name, text[:5], text[5:])} {
				checkNoSave(t, diskOf(60000, f))
				checkNoSave(t, diskOf(60000, f, fileOf(21, "", "")))
				checkNoSave(t, diskOf(60000, f, fileOf(21, text[:len(text)-1], "")))
			}
		}
		all := diskOf(60000)
		for name := range 22 {
			all.Files = append(all.Files, fileOf(name, packedSave(t, saveOf((name+i)%20, impl.Books{Lot: name})), ""))
		}
		checkSaveLoad(t, all, saveOf((21+i)%20, impl.Books{Lot: 21}), true)
		checkNoSave(t, diskOf(60000, all.Files[:21]...))
		checkSaveLoad(t, withFile(all, fileOf(20, text, "")), saveOf((21+i)%20, impl.Books{Lot: 21}), true)
		checkSaveLoad(t, withFile(all, fileOf(21, "", text)), s, true)
	}
}

// badSaveDisks have the text in the file of the save, and are wrong by one thing each.
func badSaveDisks(text string) []impl.Disk {
	save, segs := fileOf(21, text, ""), fileOf(3, "a", "b")
	return []impl.Disk{
		diskOf(len(text)-1, save), diskOf(len(text)+1, segs, save), diskOf(-1, save), diskOf(60001, save), diskOf(math.MaxInt, save), diskOf(math.MinInt, save),
		diskOf(60000, save, save), diskOf(60000, save, segs), diskOf(60000, segs, segs, save), diskOf(60000, save, fileOf(22, "", "")), diskOf(60000, fileOf(-1, "", ""), save),
		diskOf(60000, fileOf(21, "", ""), save), diskOf(60000, save, fileOf(21, "", "")), diskOf(60000, fileOf(20, strings.Repeat("x", 60000), ""), save),
	}
}

func TestP16LoadOfAWrongDisk(t *testing.T) {
	for _, s := range someSaves() {
		text := packedSave(t, s)
		for _, d := range badSaveDisks(text) {
			checkNoSave(t, d)
			checkSaveLoadByWords(t, d)
		}
		// The files behind the list are no part of it.
		files := []impl.File{fileOf(3, "a", ""), fileOf(21, text, "")}
		checkNoSave(t, impl.Disk{Room: 60000, Files: files[:1]})
	}
	for _, d := range slices.Concat(wrongDisks(), wrongSegDisks()) {
		checkNoSave(t, d)
	}
}

// Zero is From 0 and no books, also where much was read ahead of what is wrong.
func TestP16LoadIsZeroBesideAFalse(t *testing.T) {
	text, full := packedSave(t, saveOf(7, fullBooks())), fullPacked()
	for _, d := range slices.Concat([]impl.Disk{{}, diskOf(60000, fileOf(20, text, ""))}, withSaved(text[:len(text)-1]), withSaved(text+"\x00"),
		withSaved(savedAs([]byte{7}, full, []byte{0})), withSaved(savedAs([]byte{7}, full[:len(full)-1])), withSaved(savedAs([]byte{20}, full)), badSaveDisks(text)) {
		s, ok := impl.SaveLoad(d)
		b := s.Books
		if ok || s.From != 0 || len(b.Accounts) != 0 || len(b.Instrs) != 0 || len(b.Bals) != 0 || len(b.Lots) != 0 || len(b.Trades) != 0 || b.Lot != 0 {
			t.Errorf("SaveLoad(%s) = %s, %v", diskText(d), saveText(s), ok)
		}
	}
}

// Drawn texts, of which most have a whole seal, and saves with a few bytes turned and sealed anew.
func TestP16LoadByTheWords(t *testing.T) {
	counts, roll, saves := [2]int{}, dice(53), someSaves()[:8]
	for n := range 20000 {
		text := string(drawnBytes(n, roll(30)))
		if roll(6) > 0 {
			text = packedSave(t, saves[roll(len(saves))])
			held, _, _ := wantUnseal([]byte(text), 0)
			turned := slices.Clone(held)
			for range roll(3) {
				turned[roll(len(turned))] = byte(roll(256))
			}
			text = savedAs(turned[roll(12)/11:])
		}
		cut := roll(len(text) + 1)
		if checkSaveLoadByWords(t, diskOf(60000, fileOf(21, text[:cut], text[cut:]))) {
			counts[1]++
		} else {
			counts[0]++
		}
	}
	if min(counts[0], counts[1]) < 4000 {
		t.Error("too few of one kind", counts)
	}
}
