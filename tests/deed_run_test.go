package tests

import (
	"slices"
	"strings"
	"testing"

	"loop.example/g00110/impl"
)

// wantDeeds says by the words what a row of deeds comes to.
func wantDeeds(e impl.Engine, list []impl.Deed) (impl.Engine, []int) {
	codes := []int{}
	if len(list) > 200 || !engineRight(e) {
		return e, codes
	}
	for _, d := range list {
		next := wantDo(e, d)
		if next.code == impl.EnDone {
			e = next.engine
		}
		codes = append(codes, next.code)
	}
	return e, codes
}

func checkDeeds(t *testing.T, e impl.Engine, list []impl.Deed, want impl.Engine, wantCodes []int) {
	t.Helper()
	if got, codes := impl.EngineRun(e, list); !sameEngine(got, want) || !slices.Equal(codes, wantCodes) {
		t.Errorf("a row of %d deeds of %s = %s, %v; want %s, %v", len(list), engineText(e), engineText(got), codes, engineText(want), wantCodes)
	}
}

func checkDeedsByWords(t *testing.T, e impl.Engine, list []impl.Deed) {
	t.Helper()
	want, codes := wantDeeds(e, list)
	checkDeeds(t, e, list, want, codes)
}

// checkNoDeeds wants the engine as it was, whatever it is, and not one code.
func checkNoDeeds(t *testing.T, e impl.Engine, list []impl.Deed) {
	t.Helper()
	checkDeeds(t, e, list, e, nil)
}

// checkDeedsInTurn holds a row against its deeds, done one behind the other by EngineDo alone.
func checkDeedsInTurn(t *testing.T, e impl.Engine, list []impl.Deed) {
	t.Helper()
	want, codes := e, []int{}
	for _, d := range list {
		next, _, code := impl.EngineDo(want, d)
		if code == impl.EnDone {
			want = next
		}
		codes = append(codes, code)
	}
	checkDeeds(t, e, list, want, codes)
}

// checkDeedsInParts wants of a row that is cut at one place what the whole row comes to.
func checkDeedsInParts(t *testing.T, e impl.Engine, list []impl.Deed, cut int) {
	t.Helper()
	want, wantCodes := impl.EngineRun(e, list)
	first, codes := impl.EngineRun(e, list[:cut])
	second, more := impl.EngineRun(first, list[cut:])
	if !sameEngine(second, want) || !slices.Equal(slices.Concat(codes, more), wantCodes) {
		t.Errorf("%d deeds of %s cut at %d: %s, %v; want %s, %v", len(list), engineText(e), cut, engineText(second), slices.Concat(codes, more), engineText(want), wantCodes)
	}
}

// deedsOf are the submits of a row of commands.
func deedsOf(list ...impl.Cmd) []impl.Deed {
	deeds := []impl.Deed{}
	for _, record := range recordsOf(list...) {
		deeds = append(deeds, submitDeed([]byte(record)))
	}
	return deeds
}

// handDeed is a deed, and the code that it has where it stands.
type handDeed struct {
	deed impl.Deed
	code int
}

// handRow is a row for a new engine with room for 42 bytes.
func handRow() []handDeed {
	one, two, three := []byte{1, 1, 2}, []byte{1, 2, 1}, []byte{1, 3, 1}
	return []handDeed{
		{openDeed(), impl.EnRefused}, {submitDeed(one), impl.EnDone}, {submitDeed(one), impl.EnRefused}, {submitDeed([]byte{9}), impl.EnParse}, {impl.Deed{}, impl.EnBad},
		{submitDeed(two), impl.EnDone}, {tornDeed(three, 7), impl.EnDone}, {submitDeed(three), impl.EnDown}, {saveDeed(), impl.EnDown}, {crashDeed(0), impl.EnDown},
		{tornDeed(three, 8), impl.EnDown}, {tornSaveDeed(4, 0), impl.EnDown}, {openDeed(), impl.EnDone}, {openDeed(), impl.EnRefused}, {impl.Deed{Kind: 6, Keep: 1}, impl.EnBad},
		{tornDeed(three, 8), impl.EnDone}, {openDeed(), impl.EnDone}, {submitDeed(three), impl.EnRefused}, {tornSaveDeed(1, 5), impl.EnDone}, {openDeed(), impl.EnDone},
		{saveDeed(), impl.EnDone}, {submitDeed([]byte{1, 4, 1}), impl.EnDone}, {submitDeed([]byte{1, 5, 1}), impl.EnDone}, {submitDeed([]byte{1, 6, 1}), impl.EnDone},
		{submitDeed([]byte{1, 7, 1}), impl.EnFull}, {saveDeed(), impl.EnFull}, {impl.Deed{Kind: 2, Bytes: "\x01"}, impl.EnBad}, {crashDeed(0), impl.EnDone},
	}
}

func deedsAndCodes(row []handDeed) ([]impl.Deed, []int) {
	deeds, codes := []impl.Deed{}, []int{}
	for _, r := range row {
		deeds, codes = append(deeds, r.deed), append(codes, r.code)
	}
	return deeds, codes
}

func TestP18RunByHand(t *testing.T) {
	deeds, codes := deedsAndCodes(handRow())
	e := impl.EngineNew(42)
	save := "\x0d\x01\x03\x01\x02\x02\x01\x03\x01\x00\x00\x00\x00\x00\x1b\x00\xe0\x00"
	rest := "\x03\x01\x04\x01\x09\x00\x12\x00\x03\x01\x05\x01\x0a\x00\x14\x00\x03\x01\x06\x01\x0b\x00\x16\x00"
	want := impl.Engine{Disk: diskOf(42, fileOf(1, rest, ""), fileOf(21, save, ""))}
	checkDeeds(t, e, deeds, want, codes)
	checkDeedsByWords(t, e, deeds)
	checkDeedsInTurn(t, e, deeds)
	for cut := range len(deeds) + 1 {
		checkDeedsInParts(t, e, deeds, cut)
		checkDeedsByWords(t, e, deeds[:cut])
	}
	// Opened then, and all over again: it is up with six accounts, and there is no room for more.
	up := upEngine(want.Disk, impl.Books{Accounts: chartOf(1, 2, 2, 1, 3, 1, 4, 1, 5, 1, 6, 1)}, 1, 3)
	checkDeeds(t, want, []impl.Deed{openDeed()}, up, []int{impl.EnDone})
	checkDeedsByWords(t, want, deeds)
	checkDeedsByWords(t, up, deeds)
}

func TestP18RunOfNoDeeds(t *testing.T) {
	for _, e := range slices.Concat(upEngines(), downEngines(), wrongEngines()) {
		checkNoDeeds(t, e, nil)
		checkNoDeeds(t, e, []impl.Deed{})
		checkNoDeeds(t, e, []impl.Deed{openDeed(), crashDeed(3)}[:0])
	}
}

func TestP18RunOfOneDeed(t *testing.T) {
	wrong := wrongDeeds()
	for i, e := range slices.Concat(upEngines(), downEngines()) {
		for j, d := range append(someDeeds(), wrong[i%len(wrong)]) {
			if (i+j)%4 > 0 {
				continue
			}
			next, _, code := impl.EngineDo(e, d)
			if code != impl.EnDone {
				next = e
			}
			checkDeeds(t, e, []impl.Deed{d}, next, []int{code})
		}
	}
}

// What cannot be done changes nothing: neither the engine nor what the deeds behind it come to.
func TestP18RunWithWhatCannotBeDoneBetween(t *testing.T) {
	e := upEngine(diskOf(60000, fileOf(9, "s", "late"), fileOf(21, "p", "q")), smallBooks(), 4, 5)
	between := []handDeed{
		{openDeed(), impl.EnRefused}, {submitDeed(nil), impl.EnParse}, {submitDeed([]byte{99, 1}), impl.EnParse}, {submitDeed(append(newAccount(), 0)), impl.EnParse},
		{submitDeed(bytesOf(accountCall(1, 1))), impl.EnRefused}, {submitDeed(bytesOf(cancelCall(999))), impl.EnRefused}, {submitDeed(bytesOf(accountCall(0, 1))), impl.EnRefused},
	}
	for i, d := range wrongDeeds() {
		if i%5 == 0 || d.Kind == 0 {
			between = append(between, handDeed{d, impl.EnBad})
		}
	}
	row := []impl.Deed{submitDeed(newAccount()), submitDeed(bytesOf(instrCall(900, impl.Cash))), saveDeed(), submitDeed(bytesOf(accountCall(778, impl.Dealer)))}
	want, done := wantDeeds(e, row)
	if !slices.Equal(done, make([]int, 4)) {
		t.Fatal("all of these are to be done", done)
	}
	for _, w := range between {
		checkDeeds(t, e, []impl.Deed{w.deed}, e, []int{w.code})
		checkDeeds(t, e, slices.Repeat([]impl.Deed{w.deed}, 200), e, repeated(200, w.code))
		list, codes := []impl.Deed{w.deed}, []int{w.code}
		for _, d := range row {
			list, codes = append(list, d, w.deed, w.deed), append(codes, impl.EnDone, w.code, w.code)
		}
		checkDeeds(t, e, list, want, codes)
		checkDeedsInTurn(t, e, list)
	}
	// One that is down does nothing but open.
	down := impl.Engine{Disk: wantCrash(want.Disk, 2)}
	deeds, codes := deedsAndCodes([]handDeed{{submitDeed(newAccount()), impl.EnDown}, {saveDeed(), impl.EnDown}, {crashDeed(5), impl.EnDown}, {tornDeed(newAccount(), 9), impl.EnDown}, {tornSaveDeed(2, 9), impl.EnDown}, {impl.Deed{Kind: 7}, impl.EnBad}})
	checkDeeds(t, down, deeds, down, codes)
	up, _ := impl.EngineOpen(down)
	next, more := wantDeeds(up, row)
	checkDeeds(t, down, slices.Concat(deeds, []impl.Deed{openDeed()}, row), next, slices.Concat(codes, []int{impl.EnDone}, more))
}

// manyDeeds are n deeds that one that is up does, all of them: pieces that are moved, saves, crashes of each kind and openings.
func manyDeeds(n int) []impl.Deed {
	list := []impl.Deed{}
	for i := range n {
		kinds := []impl.Deed{submitDeed(bytesOf(moveCall(2+i/2%2, 3-i/2%2, 8, 1, impl.First))), saveDeed(), crashDeed(i), openDeed(), tornSaveDeed(i%5, i), openDeed(), tornDeed(newAccount(), i%9), openDeed()}
		list = append(list, kinds[i%8])
	}
	return list
}

func TestP18RunOfAsManyDeedsAsThereCanBe(t *testing.T) {
	e := upEngine(diskOf(60000), smallBooks(), 4, 5)
	for _, n := range []int{1, 2, 7, 100, 198, 199, 200} {
		list := manyDeeds(n)
		checkDeedsByWords(t, e, list)
		checkDeedsInTurn(t, e, list)
		if _, codes := impl.EngineRun(e, list); len(codes) != n || slices.Max(codes) > 0 {
			t.Errorf("codes of %d: %v", n, codes)
		}
		checkDeeds(t, e, make([]impl.Deed, n), e, repeated(n, impl.EnBad))
		// The room behind a row is no part of it.
		checkDeedsByWords(t, e, manyDeeds(450)[:n])
	}
	for _, n := range []int{201, 202, 400, 9000} {
		for i, e := range slices.Concat([]impl.Engine{e}, upEngines(), downEngines(), wrongEngines()) {
			if i%9 == 0 {
				checkNoDeeds(t, e, manyDeeds(n))
				checkNoDeeds(t, e, make([]impl.Deed, n))
			}
		}
	}
	for _, cut := range []int{0, 1, 2, 99, 100, 198, 199, 200} {
		checkDeedsInParts(t, e, manyDeeds(200), cut)
	}
	// More than a row may have are two rows.
	for last := range 8 {
		list := append(manyDeeds(200 + last)[last:], openDeed(), submitDeed(newAccount()))
		checkNoDeeds(t, e, list)
		first, _ := impl.EngineRun(e, list[:200])
		checkDeedsByWords(t, first, list[200:])
	}
}

func TestP18RunOfWrongEngines(t *testing.T) {
	deeds, _ := deedsAndCodes(handRow())
	for _, e := range wrongEngines() {
		checkNoDeeds(t, e, deeds)
		checkNoDeeds(t, e, []impl.Deed{openDeed()})
		checkNoDeeds(t, e, []impl.Deed{submitDeed(newAccount())})
		checkNoDeeds(t, e, make([]impl.Deed, 1))
		checkNoDeeds(t, e, make([]impl.Deed, 201))
	}
}

// The order of a row counts.
func TestP18RunInItsOrder(t *testing.T) {
	deeds := deedsOf(smallRow()...)
	want := upEngine(diskOf(60000, segsOf(0, recordsOf(smallRow()...))...), smallBooks(), 3, 2)
	checkDeeds(t, impl.EngineNew(60000), deeds, want, make([]int, 20))
	back := slices.Clone(deeds)
	slices.Reverse(back)
	checkDeedsByWords(t, impl.EngineNew(60000), back)
	// An account ahead of a crash is there behind it; a save ahead of a record doesn't have it, and the record stands behind.
	one, two := submitDeed(bytesOf(accountCall(1, 2))), submitDeed(bytesOf(accountCall(1, 1)))
	books := impl.Books{Accounts: chartOf(1, impl.Issuer)}
	checkDeeds(t, impl.EngineNew(60000), []impl.Deed{one, two, crashDeed(0), openDeed()}, upEngine(diskOf(60000, fileOf(0, rowOf("\x01\x01\x02"), "")), books, 0, 1), []int{0, impl.EnRefused, 0, 0})
	empty := fileOf(21, packedSave(t, saveOf(1, impl.Books{})), "")
	checkDeeds(t, impl.EngineNew(60000), []impl.Deed{saveDeed(), one, two}, upEngine(diskOf(60000, fileOf(1, rowOf("\x01\x01\x02"), ""), empty), books, 1, 1), []int{0, 0, impl.EnRefused})
	checkDeeds(t, impl.EngineNew(60000), []impl.Deed{one, saveDeed(), two}, upEngine(diskOf(60000, fileOf(21, packedSave(t, saveOf(1, books)), "")), books, 1, 0), []int{0, 0, impl.EnRefused})
	checkDeeds(t, impl.EngineNew(60000), []impl.Deed{crashDeed(0), one, openDeed(), two}, upEngine(diskOf(60000, fileOf(0, rowOf("\x01\x01\x01"), "")), impl.Books{Accounts: chartOf(1, impl.Holder)}, 0, 1), []int{0, impl.EnDown, 0, 0})
}

func TestP18RunsByTheWords(t *testing.T) {
	wrong := wrongDeeds()
	for i, e := range slices.Concat(upEngines(), downEngines()) {
		if i%3 > 0 {
			continue
		}
		row := someDeeds()[i%7:]
		if i%2 == 0 {
			slices.Reverse(row)
		}
		for at := range 5 {
			row = slices.Insert(row, (i+7*at)%len(row), wrong[(i*at)%len(wrong)], openDeed())
		}
		checkDeedsByWords(t, e, row)
		checkDeedsInTurn(t, e, row)
		checkDeedsInParts(t, e, row, i%len(row))
	}
}

// drawnDeed is mostly a submit of what the books may do or refuse, while the engine is up.
func drawnDeed(up bool, b impl.Books, roll func(n int) int, calm int) impl.Deed {
	keep := roll(40)
	switch roll(calm) {
	case 0:
		return crashDeed(keep)
	case 1, 2:
		return tornDeed(drawnBytesOf(b, roll), keep)
	case 3:
		return tornSaveDeed(roll(5), roll(300))
	case 4:
		return saveDeed()
	case 5, 6:
		return openDeed()
	case 7:
		wrong := wrongDeeds()
		return wrong[roll(len(wrong))]
	}
	if !up && roll(3) > 0 {
		return openDeed()
	}
	return submitDeed(drawnBytesOf(b, roll))
}

// drawnDeeds are n deeds, drawn by what the ones ahead of them came to.
func drawnDeeds(e impl.Engine, n int, roll func(n int) int, calm int) []impl.Deed {
	list, books := []impl.Deed{}, e.Books
	for range n {
		d := drawnDeed(e.Up, books, roll, calm)
		list = append(list, d)
		if next := doDeed(e, d); next.code == impl.EnDone {
			e = next.engine
		}
		if e.Up {
			books = e.Books
		}
	}
	return list
}

// drawnRoom is room for all, or for few.
func drawnRoom(seed int, roll func(n int) int) int {
	return []int{60000, 40 + roll(400), 300 + roll(2500)}[seed%3]
}

// Drawn rows from new engines on: by the words, one behind the other, and in halves.
func TestP18Walks(t *testing.T) {
	codes := map[int]map[int]int{}
	for seed := range 60 {
		roll := dice(180000 + seed)
		e := impl.EngineNew(drawnRoom(seed, roll))
		list := drawnDeeds(e, 200, roll, []int{14, 30, 100}[seed/3%3])
		checkDeedsByWords(t, e, list)
		checkDeedsInTurn(t, e, list)
		for _, cut := range []int{1, 100, 199, 3 * seed} {
			checkDeedsInParts(t, e, list, cut)
		}
		next, told := impl.EngineRun(e, list)
		for i, code := range told {
			if codes[list[i].Kind] == nil {
				codes[list[i].Kind] = map[int]int{}
			}
			codes[list[i].Kind][code]++
		}
		// Once more, behind all of it.
		checkDeedsByWords(t, next, list)
	}
	for kind, least := range map[int][]int{1: {0, 1, 2, 3, 4, 5}, 2: {0, 2, 5}, 3: {0, 2}, 4: {0, 2}, 5: {0, 2}, 6: {0, 4}} {
		for _, code := range least {
			if codes[kind][code] < 8 {
				t.Error("too few", kind, code, codes[kind])
			}
		}
	}
}

// One behind the other, each as a row of its own, they come to what the whole row comes to; what is not done turns nothing.
func TestP18RowsOfOneDeedInTurn(t *testing.T) {
	for seed := range 20 {
		roll := dice(185000 + seed)
		given := impl.EngineNew(drawnRoom(seed, roll))
		list := drawnDeeds(given, 200, roll, 20)
		e, codes := given, []int{}
		for _, d := range list {
			next, code := impl.EngineRun(e, []impl.Deed{d})
			if len(code) != 1 || code[0] != impl.EnDone && !sameEngine(next, e) || !impl.EngineOk(next) {
				t.Errorf("%s of %s: %s, %v", deedText(d), engineText(e), engineText(next), code)
			}
			e, codes = next, append(codes, code...)
		}
		checkDeeds(t, given, list, e, codes)
	}
}

// A text is told as it is, not as signs: bytes of all values reach the call.
func TestP18DeedsAreBytes(t *testing.T) {
	e := upEngine(diskOf(60000), smallBooks(), 0, 0)
	for n := range 256 {
		for _, text := range []string{string([]byte{byte(n)}), string([]byte{1, byte(n), 7, 1}), string([]byte{6, byte(n)}), strings.Repeat(string([]byte{byte(n)}), 200)} {
			d := submitDeed([]byte(text))
			checkDoByWords(t, e, d)
			next, told, code := impl.EngineSubmit(e, []byte(text))
			checkDo(t, e, d, enAnswer{next, told, code})
		}
	}
}
