package tests

import (
	"fmt"
	"slices"
	"testing"

	"loop.example/g00110/impl"
)

func saveOf(from int, b impl.Books) impl.Save { return impl.Save{From: from, Books: b} }

func sameSave(a impl.Save, b impl.Save) bool { return a.From == b.From && sameBooks(a.Books, b.Books) }

// saveText keeps what a test tells readable, where books are long.
func saveText(s impl.Save) string {
	b := s.Books
	return fmt.Sprintf("{from %d, %d accounts, %d instruments, %d balances, %d lots, %d trades, lot %d}", s.From, len(b.Accounts), len(b.Instrs), len(b.Bals), len(b.Lots), len(b.Trades), b.Lot)
}

// savedAs is a whole seal of these bytes, one behind the other, whether they are a save or not.
func savedAs(parts ...[]byte) string { return string(wantSeal(slices.Concat(parts...))) }

func wantSavePack(s impl.Save) (string, bool) {
	books, ok := wantBooksPack(s.Books)
	if !ok || !segRight(s.From) {
		return "", false
	}
	return savedAs([]byte{byte(s.From)}, books), true
}

// packedSave is the text of a save that is right.
func packedSave(t *testing.T, s impl.Save) string {
	t.Helper()
	text, ok := wantSavePack(s)
	if !ok {
		t.Fatalf("this save is to be right: %s", saveText(s))
	}
	return text
}

func checkSavePack(t *testing.T, s impl.Save, want string, wantOk bool) {
	t.Helper()
	if got, ok := impl.SavePack(s); got != want || ok != wantOk {
		t.Errorf("SavePack(%s) = %s, %v; want %s, %v", saveText(s), short(got), ok, short(want), wantOk)
	}
}

func checkNoSavePack(t *testing.T, s impl.Save) {
	t.Helper()
	checkSavePack(t, s, "", false)
}

// savedBooks are right books of many kinds, from new ones to those with the most bytes.
func savedBooks() []impl.Books {
	list := slices.Concat(rightBooks(), []impl.Books{smallBooks(), startedBooks(), corpBooks(), heldBooks(7, 1), manyLotBooks(3, 41), fullBooksUncut(), mostBooks()})
	for _, p := range handPackedBooks() {
		list = append(list, p.books)
	}
	return list
}

// fewSaves have few bytes, and of each list at least one row somewhere.
func fewSaves() []impl.Save {
	return []impl.Save{
		saveOf(0, impl.BooksNew()), saveOf(19, impl.BooksNew()), saveOf(3, impl.Books{Lot: 1000000000}), saveOf(7, impl.Books{Accounts: chartOf(1, impl.Issuer)}),
		saveOf(19, handBooks().books), saveOf(0, smallBooks()), saveOf(11, someBooks()),
	}
}

// someSaves are the few ones and greater ones.
func someSaves() []impl.Save {
	return append(fewSaves(), saveOf(0, farBooks()), saveOf(1, fullBooks()), saveOf(19, mostBooks()))
}

// wrongSaves cannot be packed: by where they are from, by their books, by both.
func wrongSaves() []impl.Save {
	list := []impl.Save{saveOf(20, wrongBooksByHand()[0]), saveOf(-1, wrongBooksByHand()[1]), {From: 20}, {From: -1}}
	for _, from := range noSegs() {
		list = append(list, saveOf(from, smallBooks()), saveOf(from, impl.BooksNew()))
	}
	for i, b := range append(wrongBooksByHand(), tooLongBooks()...) {
		list = append(list, saveOf(i%20, b))
	}
	return list
}

func TestP16Constants(t *testing.T) {
	if impl.FileNew != 20 || impl.FileSave != 21 || impl.SaveSteps != 4 {
		t.Error("names and steps", impl.FileNew, impl.FileSave, impl.SaveSteps)
	}
}

func TestP16PackByHand(t *testing.T) {
	checkSavePack(t, saveOf(0, impl.BooksNew()), "\x07\x00\x00\x00\x00\x00\x00\x00\x07\x00\x1c\x00", true)
	checkSavePack(t, saveOf(19, impl.BooksNew()), "\x07\x13\x00\x00\x00\x00\x00\x00\x1a\x00\xa1\x00", true)
	checkSavePack(t, saveOf(3, impl.Books{Accounts: chartOf(1, impl.Issuer)}), "\x09\x03\x01\x01\x02\x00\x00\x00\x00\x00\x10\x00\x63\x00", true)
	checkSavePack(t, impl.Save{}, "\x07\x00\x00\x00\x00\x00\x00\x00\x07\x00\x1c\x00", true)
	empty := impl.Books{Accounts: []impl.Account{}, Instrs: []impl.Instr{}, Bals: []impl.Bal{}, Lots: []impl.Lot{}, Trades: []impl.Trade{}}
	checkSavePack(t, saveOf(19, empty), "\x07\x13\x00\x00\x00\x00\x00\x00\x1a\x00\xa1\x00", true)
	for _, p := range handPackedBooks() {
		for from := range 20 {
			checkSavePack(t, saveOf(from, p.books), savedAs([]byte{byte(from)}, p.bytes), true)
		}
	}
}

func TestP16PackOfManyBooks(t *testing.T) {
	for _, b := range savedBooks() {
		for _, from := range []int{0, 1, 10, 18, 19} {
			s := saveOf(from, b)
			checkSavePack(t, s, packedSave(t, s), true)
		}
	}
}

// The most bytes that books can have are not too many for a seal.
func TestP16PackOfTheMostBytes(t *testing.T) {
	s := saveOf(19, mostBooks())
	size, text := impl.BooksSize(s.Books), packedSave(t, s)
	checkSavePack(t, s, text, true)
	if size < 4000 || len(text) != 2+1+size+4 {
		t.Errorf("a save of books of %d bytes has %d", size, len(text))
	}
}

func TestP16PackFromNoSegment(t *testing.T) {
	for _, from := range noSegs() {
		for _, b := range savedBooks() {
			checkNoSavePack(t, saveOf(from, b))
		}
		checkNoSavePack(t, saveOf(from, wrongBooksByHand()[2]))
	}
	for from := -30; from < 50; from++ {
		want, ok := wantSavePack(saveOf(from, smallBooks()))
		checkSavePack(t, saveOf(from, smallBooks()), want, ok)
		if ok != (0 <= from && from < impl.MaxSeg) {
			t.Errorf("from %d is %v", from, ok)
		}
	}
}

func TestP16PackOfWrongBooks(t *testing.T) {
	for i, b := range slices.Concat(wrongBooks(), wrongBooksByHand(), tooLongBooks(), turnedBooks(someBooks())) {
		for _, from := range []int{0, 19, i % 20, -1, 20} {
			checkNoSavePack(t, saveOf(from, b))
		}
	}
	for _, b := range cutBooks(someBooks()) {
		want, ok := wantSavePack(saveOf(4, b))
		checkSavePack(t, saveOf(4, b), want, ok)
	}
}
