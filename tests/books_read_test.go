package tests

import (
	"bytes"
	"math"
	"slices"
	"testing"

	"loop.example/g00110/impl"
)

// rowsIn takes rows of so many numbers off the front of a list that begins with how many there are.
func rowsIn(nums []int, width int) ([][]int, []int, bool) {
	if len(nums) == 0 || nums[0] > len(nums)/width {
		return nil, nil, false
	}
	many, nums := nums[0], nums[1:]
	if many*width > len(nums) {
		return nil, nil, false
	}
	return slices.Collect(slices.Chunk(nums[:many*width], width)), nums[many*width:], true
}

// wantBooksRead reads all numbers first, and then the lists out of them.
func wantBooksRead(b []byte) (impl.Books, bool) {
	nums := []int{}
	for at := 0; at < len(b); {
		x, next, ok := wantGetNum(b, at)
		if !ok {
			return impl.Books{}, false
		}
		nums, at = append(nums, x), next
	}
	lists := [][][]int{}
	for _, width := range []int{2, 2, 3, 5, 8} {
		list, rest, ok := rowsIn(nums, width)
		if !ok {
			return impl.Books{}, false
		}
		lists, nums = append(lists, list), rest
	}
	if len(nums) != 1 {
		return impl.Books{}, false
	}
	read := booksOfRows(lists, nums[0])
	if !booksRight(read) {
		return impl.Books{}, false
	}
	return read, true
}

func booksOfRows(lists [][][]int, lot int) impl.Books {
	b := impl.Books{Lot: lot}
	for _, row := range lists[0] {
		b.Accounts = append(b.Accounts, impl.Account{No: row[0], Kind: row[1]})
	}
	for _, row := range lists[1] {
		b.Instrs = append(b.Instrs, impl.Instr{No: row[0], Kind: row[1]})
	}
	for _, row := range lists[2] {
		b.Bals = append(b.Bals, impl.Bal{Account: row[0], Instr: row[1], Amount: row[2] - 1000000000000000})
	}
	for _, row := range lists[3] {
		b.Lots = append(b.Lots, lotOf([5]int(row)))
	}
	for _, row := range lists[4] {
		b.Trades = append(b.Trades, tradeOf([8]int(row)))
	}
	return b
}

func checkBooksRead(t *testing.T, b []byte, want impl.Books, wantOk bool) {
	t.Helper()
	if got, ok := impl.BooksRead(b); !sameBooks(got, want) || ok != wantOk {
		t.Errorf("BooksRead(%v) = %v, %v; want %v, %v", b, got, ok, want, wantOk)
	}
}

func checkNoBooks(t *testing.T, b []byte) {
	t.Helper()
	checkBooksRead(t, b, impl.Books{}, false)
}

// checkBooksReadByWords also wants what is read to pack to just those bytes; it tells whether there are books.
func checkBooksReadByWords(t *testing.T, b []byte) bool {
	t.Helper()
	want, ok := wantBooksRead(b)
	checkBooksRead(t, b, want, ok)
	if read, ok := impl.BooksRead(b); ok {
		checkBooksPack(t, read, b, true)
	}
	return ok
}

// codedBooks are those of which bytes are cut, turned and put together.
func codedBooks() []packedBooks {
	list := handPackedBooks()
	for _, b := range []impl.Books{someBooks(), farBooks(), smallBooks()} {
		packed, _ := wantBooksPack(b)
		list = append(list, packedBooks{b, packed})
	}
	return list
}

func fullPacked() []byte { return wantForms(booksNums(fullBooks())) }

func TestP13ReadOfNothing(t *testing.T) {
	checkNoBooks(t, nil)
	checkNoBooks(t, []byte{})
	for n := range 20 {
		if n != 6 {
			checkNoBooks(t, make([]byte, n))
		}
	}
	checkBooksRead(t, make([]byte, 6), impl.Books{}, true)
	// The room behind the bytes is no part of them.
	whole := make([]byte, 12)
	for n := range whole {
		checkBooksRead(t, whole[:n], impl.Books{}, n == 6)
	}
}

// Zero is books of empty lists and Lot 0, also where much was read ahead of what is wrong.
func TestP13ReadIsZeroBesideAFalse(t *testing.T) {
	packed := fullPacked()
	for _, b := range [][]byte{nil, packed[:len(packed)-1], append(slices.Clone(packed), 0), {0, 0, 0, 0, 0, 128}, {0, 0, 0, 0, 0, 9, 9}, {1, 5, 3, 1, 5, 2, 0, 0, 0, 129, 148, 235, 220, 3}} {
		read, ok := impl.BooksRead(b)
		if ok || len(read.Accounts) != 0 || len(read.Instrs) != 0 || len(read.Bals) != 0 || len(read.Lots) != 0 || len(read.Trades) != 0 || read.Lot != 0 {
			t.Errorf("BooksRead(%v) = %v, %v", b, read, ok)
		}
	}
}

func TestP13ReadOfBooksCutShort(t *testing.T) {
	for _, p := range codedBooks() {
		for n := range p.bytes {
			checkNoBooks(t, p.bytes[:n])
			checkNoBooks(t, slices.Clone(p.bytes[:n]))
			// Without one byte amid it is others or none.
			checkBooksReadByWords(t, slices.Delete(slices.Clone(p.bytes), n, n+1))
		}
	}
	packed := fullPacked()
	for n := range packed {
		checkNoBooks(t, packed[:n])
	}
}

func TestP13ReadOfBooksWithBytesBehind(t *testing.T) {
	list := codedBooks()
	for _, p := range append(list, packedBooks{fullBooks(), fullPacked()}) {
		for _, behind := range [][]byte{{0}, {1}, {127}, {128}, {255}, {0, 0}, {128, 0}, {128, 1}, copiesOf(9, 128), copiesOf(12, 255), make([]byte, 300), p.bytes} {
			checkNoBooks(t, slices.Concat(p.bytes, behind))
		}
		for _, q := range list {
			checkNoBooks(t, slices.Concat(p.bytes, q.bytes))
		}
		for _, ahead := range [][]byte{{0}, {1}, {128}, {255}} {
			checkBooksReadByWords(t, slices.Concat(ahead, p.bytes))
		}
	}
}

// countPlaces are the places of how many, among the numbers of books.
func countPlaces(b impl.Books) []int {
	places, at := []int{}, 0
	for _, n := range []int{2 * len(b.Accounts), 2 * len(b.Instrs), 3 * len(b.Bals), 5 * len(b.Lots), 8 * len(b.Trades)} {
		places = append(places, at)
		at += 1 + n
	}
	return places
}

func TestP13ReadOfAnotherHowMany(t *testing.T) {
	great := []int{9, 21, 31, 121, 161, 300, 2000, 2001, 1 << 20, 1 << 31, 1 << 32, top, 1 << 56, 1 << 62, math.MaxInt - 1, math.MaxInt}
	for _, p := range append(codedBooks(), packedBooks{fullBooks(), fullPacked()}) {
		forms, nums := booksForms(p.books), booksNums(p.books)
		for _, place := range countPlaces(p.books) {
			for _, many := range append(great, 0, 1, 2, 3, 4, nums[place]+1, max(nums[place]-1, 0)) {
				b := withForm(forms, place, wantForm(many))
				if ok := checkBooksReadByWords(t, b); ok != (many == nums[place]) {
					t.Errorf("how many at %d of %v is %d: read %v", place, nums, many, ok)
				}
			}
			for _, many := range great {
				checkNoBooks(t, slices.Concat(withForm(forms[:place+1], place, wantForm(many)), copiesOf(20000, 1)))
				checkNoBooks(t, withForm(forms[:place+1], place, wantForm(many)))
			}
		}
	}
	// The greatest number that has a form, ahead of nothing and of much.
	most := []byte{255, 255, 255, 255, 255, 255, 255, 255, 127}
	for n := range 5 {
		checkNoBooks(t, slices.Concat(make([]byte, n), most))
		checkNoBooks(t, slices.Concat(make([]byte, n), most, make([]byte, 5-n)))
		checkNoBooks(t, slices.Concat(make([]byte, n), most, copiesOf(100000, 5)))
	}
}

func TestP13ReadOfMoreRowsThanThereCanBe(t *testing.T) {
	for _, b := range tooLongBooks() {
		if slices.Min(booksNums(b)) >= 0 {
			checkNoBooks(t, wantForms(booksNums(b)))
		}
	}
	// One less of each, and they are read.
	for _, b := range []impl.Books{{Accounts: accountFace().ascending(20, 1, 1)}, {Instrs: instrFace().ascending(8, 1, 1)}, fullBooks()} {
		checkBooksReadAgain(t, b)
	}
}

func TestP13ReadOfFormsThatAreNotTheShortest(t *testing.T) {
	checkNoBooks(t, []byte{128, 0, 0, 0, 0, 0, 0})
	checkNoBooks(t, []byte{0, 0, 0, 0, 0, 128, 0})
	checkNoBooks(t, []byte{0, 0, 0, 0, 0, 137, 0})
	for _, p := range codedBooks() {
		forms := booksForms(p.books)
		for place, form := range forms {
			for _, long := range longForms(form) {
				checkNoBooks(t, withForm(forms, place, long))
			}
		}
		checkBooksRead(t, slices.Concat(forms...), p.books, true)
	}
	forms := booksForms(fullBooks())
	for place, form := range forms {
		checkNoBooks(t, withForm(forms, place, longForms(form)[0]))
	}
}

func TestP13ReadOfFormsOfMoreThanNineBytes(t *testing.T) {
	for _, p := range handPackedBooks() {
		forms := booksForms(p.books)
		for place := range forms {
			for _, long := range formsTooLong() {
				checkNoBooks(t, withForm(forms, place, long))
			}
		}
	}
}

func TestP13ReadOfNumbersThatAreTooGreat(t *testing.T) {
	// The greatest amount that there is, and the one above it.
	b := []byte{2, 1, 2, 2, 3, 1, 5, 1, 2, 1, 5, 0, 2, 5, 128, 128, 180, 204, 212, 223, 198, 3, 0, 0, 0}
	checkBooksReadByWords(t, b)
	b[14]++
	checkNoBooks(t, b)
	great := []int{2*top + 1, 2*top + 2, 2*top + 128, 3 * top, 3*top + 1, 1<<56 - 1, 1 << 56, 1 << 62, math.MaxInt - top, math.MaxInt - 1, math.MaxInt}
	for _, p := range codedBooks() {
		forms := booksForms(p.books)
		for place := range forms {
			for _, x := range great {
				checkNoBooks(t, withForm(forms, place, wantForm(x)))
			}
		}
		for i := range p.books.Bals {
			place := countPlaces(p.books)[2] + 3 + 3*i
			for _, x := range append(great, 0, 1, top-1, top, top+1, 2*top-1, 2*top) {
				checkBooksReadByWords(t, withForm(forms, place, wantForm(x)))
			}
		}
	}
}

// Two amounts that are none come to nothing together, and are refused all the same.
func TestP13ReadOfAmountsThatAreNone(t *testing.T) {
	b := impl.Books{Accounts: chartOf(1, impl.Issuer, 2, impl.Issuer, 3, impl.Issuer), Instrs: instrsOf(5, impl.Cash), Bals: rows{{1, 5, top}, {2, 5, -top}}.bals()}
	checkBooksReadAgain(t, b)
	b.Bals = rows{{1, 5, top + 1}, {2, 5, -1}, {3, 5, -top}}.bals()
	checkNotPacked(t, b)
	checkNoBooks(t, wantForms(booksNums(b)))
	b.Bals = rows{{1, 5, 2 * top}, {2, 5, -top}, {3, 5, -top}}.bals()
	checkNotPacked(t, b)
	checkNoBooks(t, wantForms(booksNums(b)))
}

// The bytes that wrong books would have are of no books.
func TestP13ReadOfWrongBooks(t *testing.T) {
	counts := 0
	for _, b := range slices.Concat(wrongBooks(), wrongBooksByHand(), turnedBooks(someBooks()), turnedBooks(fullBooks())) {
		nums := booksNums(b)
		if slices.Min(nums) >= 0 {
			checkNoBooks(t, wantForms(nums))
			counts++
		}
	}
	if counts < 500 {
		t.Error("too few wrong books that have bytes", counts)
	}
	for _, b := range slices.Concat(cutBooks(someBooks()), cutBooks(smallBooks())) {
		if nums := booksNums(b); slices.Min(nums) >= 0 {
			checkBooksReadByWords(t, wantForms(nums))
		}
	}
}

// Each single byte turned into each other one: what is then read packs to just those bytes, and else it is refused.
func TestP13BytesOfBooksTurned(t *testing.T) {
	counts := [2]int{}
	for _, p := range codedBooks() {
		b := slices.Clone(p.bytes)
		for place, old := range p.bytes {
			for by := 1; by < 256; by++ {
				b[place] = old + byte(by)
				if !checkBooksReadByWords(t, b) {
					counts[0]++
					continue
				}
				counts[1]++
				if read, _ := impl.BooksRead(b); sameBooks(read, p.books) {
					t.Errorf("%v and %v are both %v", p.bytes, b, read)
				}
			}
			b[place] = old
		}
	}
	if counts[0] < 50000 || counts[1] < 2000 {
		t.Error("too few of one kind", counts)
	}
}

func TestP13BytesOfFullBooksTurned(t *testing.T) {
	packed := fullPacked()
	b := slices.Clone(packed)
	for place, old := range packed {
		for _, by := range []byte{1, 127, 128, 255} {
			b[place] = old + by
			read, ok := impl.BooksRead(b)
			if again, _ := impl.BooksPack(read); ok && !bytes.Equal(again, b) {
				t.Errorf("%v is read as %v, which packs to %v", b, read, again)
			}
			if !ok && !sameBooks(read, impl.Books{}) {
				t.Errorf("%v is refused beside %v", b, read)
			}
			if ok && (!impl.BooksOk(read) || sameBooks(read, fullBooks())) {
				t.Errorf("%v is read as %v", b, read)
			}
		}
		b[place] = old
	}
}

// Of all bytes that there are of a few, and of drawn ones.
func TestP13ReadOfManyBytes(t *testing.T) {
	counts := [2]int{}
	for one := range 256 {
		for two := range 256 {
			for _, b := range [][]byte{{0, 0, 0, 0, 0, byte(one), byte(two)}, {1, byte(one), byte(two), 0, 0, 0, 0, 0}, {byte(one), byte(two), 0, 0, 0, 0}, {0, 1, byte(one), byte(two), 0, 0, 0, 0}} {
				if checkBooksReadByWords(t, b) {
					counts[1]++
				} else {
					counts[0]++
				}
			}
		}
	}
	roll := dice(45)
	list := codedBooks()
	for n := range 20000 {
		b := drawnBytes(n, roll(40))
		if roll(4) > 0 {
			b = slices.Clone(list[roll(len(list))].bytes)
			for range roll(3) {
				b[roll(len(b))] = byte(roll(256))
			}
			b = append(b[:len(b)-roll(8)/7], drawnBytes(n, roll(8)/7)...)
		}
		if checkBooksReadByWords(t, b) {
			counts[1]++
		} else {
			counts[0]++
		}
	}
	if min(counts[0], counts[1]) < 5000 {
		t.Error("too few of one kind", counts)
	}
}

// Two rows that change places, or a number that stands at another place, are other books or none.
func TestP13NumbersAtOtherPlaces(t *testing.T) {
	for _, p := range codedBooks() {
		forms := booksForms(p.books)
		for i := range forms {
			for j := range i {
				forms[i], forms[j] = forms[j], forms[i]
				checkBooksReadByWords(t, slices.Concat(forms...))
				forms[i], forms[j] = forms[j], forms[i]
			}
		}
	}
}

// oddBooks are books of any numbers and lengths, most of them far from right.
func oddBooks() []impl.Books {
	list := append(tooLongBooks(), impl.Books{Accounts: make([]impl.Account, 100000), Instrs: make([]impl.Instr, 100000), Bals: make([]impl.Bal, 100000), Lots: make([]impl.Lot, 100000), Trades: make([]impl.Trade, 100000)})
	for _, x := range []int{math.MinInt, math.MinInt + 1, -top - 1, -top, -1, 0, 1, 2, 1000, 1001, lastNo, top, top + 1, 1 << 62, math.MaxInt - top, math.MaxInt} {
		for _, given := range []impl.Books{someBooks(), farBooks()} {
			b := cloneBooks(given)
			for _, place := range numbersOf(&b) {
				*place = x
			}
			list = append(list, b, impl.Books{Lot: x}, impl.Books{Bals: b.Bals}, impl.Books{Lots: b.Lots, Lot: lastNo}, impl.Books{Trades: b.Trades})
		}
	}
	return list
}

func oddBooksBytes() [][]byte {
	list := append(oddCmdBytes(), make([]byte, 70000), copiesOf(70000, 1), copiesOf(70000, 127), copiesOf(70000, 128), copiesOf(70000, 255))
	for _, long := range formsTooLong() {
		for n := range 6 {
			list = append(list, append(make([]byte, n), long...))
		}
	}
	for n := range 200 {
		list = append(list, drawnBytes(n, 7*n))
	}
	return list
}

func TestP22BooksAsBytesAnswerAtAnything(t *testing.T) {
	for _, b := range oddBooks() {
		want, ok := wantBooksPack(b)
		checkBooksPack(t, b, want, ok)
	}
	for _, b := range oddBooksBytes() {
		checkBooksReadByWords(t, b)
	}
}

func TestP22BooksPackWritesIntoNoBooks(t *testing.T) {
	for _, given := range slices.Concat(rightBooks(), wrongBooks(), wrongBooksByHand(), []impl.Books{handBooks().books, smallBooks()}) {
		r := roomyBooks(given)
		packed, ok := impl.BooksPack(r.books)
		other, _ := impl.BooksPack(r.books)
		size := impl.BooksSize(r.books)
		if !r.kept(given) {
			t.Errorf("BooksPack or BooksSize writes into %v: %v", given, r)
		}
		// Whoever writes on into the books or into another answer turns no answer, and the other way round.
		want := slices.Clone(packed)
		fillBooks(r.books, -5)
		fill(other[:cap(other)], 201)
		if !bytes.Equal(packed, want) || size != len(want) && ok {
			t.Errorf("BooksPack(%v): the answer beside %v shares memory", given, ok)
		}
		fill(packed[:cap(packed)], 202)
		if !r.allAre(-5) {
			t.Errorf("BooksPack(%v): the books share memory with the answer beside %v", given, ok)
		}
		checkBooksPack(t, given, want, ok)
	}
}

func TestP22BooksReadWritesIntoNoBytes(t *testing.T) {
	given := append(oddBooksBytes(), fullPacked(), fullPacked()[:1000], append(fullPacked(), 0))
	for _, p := range codedBooks() {
		given = append(given, p.bytes, p.bytes[:len(p.bytes)-1], slices.Concat(p.bytes, []byte{0}), slices.Concat(p.bytes, p.bytes))
	}
	for _, b := range wrongBooksByHand() {
		given = append(given, wantForms(booksNums(b)))
	}
	for _, b := range given {
		// What is read is written over, one list in each turn.
		checkNoByteTurned(t, "BooksRead", b, func(b []byte) []impl.Account { read, _ := impl.BooksRead(b); return read.Accounts })
		checkNoByteTurned(t, "BooksRead", b, func(b []byte) []impl.Instr { read, _ := impl.BooksRead(b); return read.Instrs })
		checkNoByteTurned(t, "BooksRead", b, func(b []byte) []impl.Bal { read, _ := impl.BooksRead(b); return read.Bals })
		checkNoByteTurned(t, "BooksRead", b, func(b []byte) []impl.Lot { read, _ := impl.BooksRead(b); return read.Lots })
		checkNoByteTurned(t, "BooksRead", b, func(b []byte) []impl.Trade { read, _ := impl.BooksRead(b); return read.Trades })
	}
}

// Two calls of the same tell the same, whatever was done to the first answer, and no list of one shares memory with another one.
func TestP22BooksReadAreNewEachTime(t *testing.T) {
	for _, p := range append(codedBooks(), packedBooks{fullBooks(), fullPacked()}) {
		first, _ := impl.BooksRead(p.bytes)
		second, _ := impl.BooksRead(p.bytes)
		fillBooks(first, -6)
		if !sameBooks(second, p.books) {
			t.Errorf("two answers of %v share memory", p.bytes)
		}
		fill(second.Accounts[:cap(second.Accounts)], impl.Account{No: -6})
		fill(second.Bals[:cap(second.Bals)], impl.Bal{Account: -6})
		fill(second.Trades[:cap(second.Trades)], impl.Trade{No: -6})
		if !slices.Equal(second.Instrs, p.books.Instrs) || !slices.Equal(second.Lots, p.books.Lots) {
			t.Errorf("two lists of the answer of %v share memory", p.bytes)
		}
		fill(second.Instrs[:cap(second.Instrs)], impl.Instr{No: -7})
		fill(second.Lots[:cap(second.Lots)], impl.Lot{Account: -7})
		if !allAre(second.Accounts, impl.Account{No: -6}) || !allAre(second.Bals, impl.Bal{Account: -6}) || !allAre(second.Trades, impl.Trade{No: -6}) {
			t.Errorf("two lists of the answer of %v share memory", p.bytes)
		}
		checkBooksRead(t, p.bytes, p.books, true)
	}
}
