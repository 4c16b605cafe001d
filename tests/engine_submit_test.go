package tests

import (
	"slices"
	"strings"
	"testing"

	"loop.example/g00110/impl"
)

// bytesOf is a call as the bytes of its command.
func bytesOf(c bookCall) []byte {
	b, _ := wantCmdPack(c.cmd())
	return b
}

// recordsOf are commands as the records that an engine writes of them.
func recordsOf(list ...impl.Cmd) []string {
	records := []string{}
	for _, c := range list {
		b, _ := wantCmdPack(c)
		records = append(records, string(b))
	}
	return records
}

func replyBytes(code int, value int) []byte {
	told, _ := wantReplyPack(impl.Reply{Code: code, Value: value})
	return told
}

// newAccount is one more account, which any books but full ones take.
func newAccount() []byte { return bytesOf(accountCall(777, impl.Rounder)) }

// tight is an engine whose disk has no room left.
func tight(e impl.Engine) impl.Engine {
	e.Disk.Room = len(rowOfFiles(e.Disk))
	return e
}

// blocked is an engine whose segment is full, and whose next one is there.
func blocked(e impl.Engine) impl.Engine {
	e.Disk, e.Count = withFile(e.Disk, fileOf((e.Seg+1)%20, "", "")), 6
	return e
}

func TestP17SubmitByHand(t *testing.T) {
	one, two := "\x03\x01\x01\x02\x07\x00\x0d\x00", "\x03\x01\x02\x01\x07\x00\x0e\x00"
	none := []byte{128, 128, 154, 166, 234, 175, 227, 1}
	done, known, bad := append([]byte{0}, none...), append([]byte{2}, none...), append([]byte{1}, none...)
	e := upEngine(diskOf(20), impl.Books{}, 0, 0)
	first := upEngine(diskOf(20, fileOf(0, one, "")), impl.Books{Accounts: chartOf(1, impl.Issuer)}, 0, 1)
	second := upEngine(diskOf(20, fileOf(0, one+two, "")), impl.Books{Accounts: chartOf(1, impl.Issuer, 2, impl.Holder)}, 0, 2)
	checkEngine(t, e, submitCall([]byte{1, 1, 2}), enAnswer{first, done, impl.EnDone})
	checkEngine(t, first, submitCall([]byte{1, 2, 1}), enAnswer{second, done, impl.EnDone})
	checkStays(t, second, submitCall([]byte{1, 2, 1}), impl.EnRefused, known...)
	checkStays(t, second, submitCall([]byte{1, 3, 0}), impl.EnRefused, bad...)
	checkStays(t, second, submitCall([]byte{1, 3, 1}), impl.EnFull)
	checkStays(t, second, submitCall([]byte{1, 3, 1, 0}), impl.EnParse, bad...)
	checkStays(t, second, submitCall([]byte{1, 3}), impl.EnParse, bad...)
	checkStays(t, second, submitCall(nil), impl.EnParse, bad...)
	checkStays(t, impl.Engine{Disk: second.Disk}, submitCall([]byte{1, 3, 1}), impl.EnDown)
	checkEngineBad(t, upEngine(diskOf(15, second.Disk.Files...), second.Books, 0, 2), submitCall([]byte{1, 3, 1}))
	// What it tells beside: 15 pieces behind a split.
	paper := upEngine(diskOf(60000), startedBooks(), 4, 3)
	paper.Books, _, _ = issueCall(1, 2, 2, 10, 200).want(paper.Books)
	split, _, _ := splitCall(2, 3, 2, 1).want(paper.Books)
	row := "\x05\x0a\x02\x03\x02\x01\x17\x00\x57\x00"
	checkEngine(t, paper, submitCall([]byte{10, 2, 3, 2, 1}), enAnswer{upEngine(diskOf(60000, fileOf(4, row, "")), split, 4, 4), []byte{0, 143, 128, 154, 166, 234, 175, 227, 1}, impl.EnDone})
}

// Each code counts ahead of all that come behind it, whatever they are.
func TestP17SubmitCodesInOrder(t *testing.T) {
	known, long := bytesOf(accountCall(1, impl.Issuer)), make([]byte, 201)
	done, bad := newAccount(), replyBytes(impl.BkBad, 0)
	for _, b := range [][]byte{done, known, long, nil, {99}} {
		for _, e := range wrongEngines() {
			checkEngineBad(t, e, submitCall(b))
		}
		for _, e := range downEngines() {
			checkStays(t, e, submitCall(b), impl.EnDown)
		}
	}
	for _, given := range upEngines() {
		given.Books = smallBooks()
		for _, e := range []impl.Engine{given, tight(given), blocked(given), tight(blocked(given))} {
			for _, b := range [][]byte{long, nil, {99}, append(slices.Clone(known), 0), append(slices.Clone(done), 0)} {
				checkStays(t, e, submitCall(b), impl.EnParse, bad...)
			}
			checkStays(t, e, submitCall(known), impl.EnRefused, replyBytes(impl.BkKnown, 0)...)
		}
		for _, e := range []impl.Engine{tight(given), blocked(given), tight(blocked(given))} {
			checkStays(t, e, submitCall(done), impl.EnFull)
		}
	}
}

func TestP17SubmitOfNoCommand(t *testing.T) {
	bad := replyBytes(impl.BkBad, 0)
	list := oddCmdBytes()
	for _, p := range somePackedCmds() {
		list = append(list, p.bytes[:len(p.bytes)-1], append(slices.Clone(p.bytes), 0), append(slices.Clone(p.bytes), p.bytes...))
	}
	for _, n := range []int{199, 200, 201, 202, 9000, 70000} {
		// Neither zeros nor a command with many bytes behind it, whether they are too many or not.
		list = append(list, make([]byte, n), append(newAccount(), make([]byte, n-len(newAccount()))...), []byte(strings.Repeat("\x06\x01", n))[:n])
	}
	for i, e := range []impl.Engine{upEngine(diskOf(60000), impl.BooksNew(), 0, 0), upEngine(ableDisk(), someBooks(), 19, 6)} {
		for _, b := range list {
			checkStays(t, e, submitCall(b), impl.EnParse, bad...)
		}
		for n := range 256 {
			checkEngineByWords(t, e, submitCall([]byte{byte(n)}))
			checkEngineByWords(t, e, submitCall([]byte{byte(n), byte(i), 1}))
		}
	}
}

// With each code that the books tell, and with nothing beside it.
func TestP17SubmitThatTheBooksRefuse(t *testing.T) {
	codes := map[int]int{}
	for i, c := range allRefused() {
		e := upEngine(diskOf(60000, fileOf(3, "s", "l")), c.given, i%20, i%7)
		for _, e := range []impl.Engine{e, tight(e), blocked(e)} {
			checkStays(t, e, submitCall(bytesOf(c.call)), impl.EnRefused, replyBytes(c.code, 0)...)
		}
		codes[c.code]++
	}
	if len(codes) != 8 {
		t.Error("codes that are not told", codes)
	}
}

func TestP17SubmitThatIsDone(t *testing.T) {
	for i, c := range slices.Concat(doneCharts(), doneMoves(), doneCorps()) {
		b := bytesOf(c.call)
		for count := range 7 {
			seg := i % 20
			d := diskOf(60000, fileOf(20, "n", "o"), fileOf(21, "p", "q"))
			at, behind := seg, count+1
			if count == 6 {
				at, behind = (seg+1)%20, 1
			}
			want := upEngine(withFile(d, fileOf(at, rowOf(string(b)), "")), c.want, at, behind)
			checkEngine(t, upEngine(d, c.given, seg, count), submitCall(b), enAnswer{want, replyBytes(impl.BkDone, c.value), impl.EnDone})
			// What was late in that segment is safe with it.
			old := withFile(d, fileOf(at, "s", "late"))
			if count < 6 {
				want.Disk = withFile(old, fileOf(at, "slate"+rowOf(string(b)), ""))
				checkEngine(t, upEngine(old, c.given, seg, count), submitCall(b), enAnswer{want, replyBytes(impl.BkDone, c.value), impl.EnDone})
			}
		}
	}
}

// segsOf are the files of a row of records, six to each segment, from one on.
func segsOf(from int, records []string) []impl.File {
	d := diskOf(0)
	for i := 0; i < len(records); i += 6 {
		d = withFile(d, fileOf((from+i/6)%20, rowOf(records[i:min(i+6, len(records))]...), ""))
	}
	return d.Files
}

// As many as fill a segment stand in it, and one more in the next one, behind the last one in the first one.
func TestP17SubmitFillsSegments(t *testing.T) {
	row := smallRow()
	records := recordsOf(row...)
	for from := range 20 {
		e := upEngine(diskOf(60000, fileOf(21, "s", "l")), impl.BooksNew(), from, 0)
		for i, record := range records {
			books, replies := wantRun(impl.BooksNew(), row[:i+1])
			want := upEngine(diskOf(60000, segsOf(from, records[:i+1])...), books, (from+i/6)%20, i%6+1)
			want.Disk = withFile(want.Disk, fileOf(21, "s", "l"))
			checkEngine(t, e, submitCall([]byte(record)), enAnswer{want, replyBytes(impl.BkDone, replies[i].Value), impl.EnDone})
			e = want
			read, _ := impl.SegRead(e.Disk, e.Seg)
			if !slices.Equal(read, records[i/6*6:i+1]) {
				t.Errorf("segment %d of %s is %q", e.Seg, engineText(e), read)
			}
		}
	}
}

// A full segment is followed by the next one, if neither that nor the one behind it is there, whatever they have.
func TestP17SubmitNextSegment(t *testing.T) {
	done := enAnswer{told: replyBytes(impl.BkDone, 0)}
	for seg := range 20 {
		next, behind := (seg+1)%20, (seg+2)%20
		kinds := []impl.File{fileOf(0, "", ""), fileOf(0, "s", ""), fileOf(0, "", "l"), fileOf(0, rowOf("r"), "x")}
		for _, f := range kinds {
			for name := range 22 {
				f.Name = name
				e := upEngine(diskOf(60000, f), smallBooks(), seg, 6)
				if name == next || name == behind {
					checkStays(t, e, submitCall(newAccount()), impl.EnFull)
				} else {
					done.engine = upEngine(withFile(e.Disk, fileOf(next, rowOf(string(newAccount())), "")), impl.Books{}, next, 1)
					done.engine.Books, _, _ = accountCall(777, impl.Rounder).want(smallBooks())
					checkEngine(t, e, submitCall(newAccount()), done)
				}
				// In a segment with room for one more, it doesn't count which ones are there.
				e.Count = 5
				checkEngineByWords(t, e, submitCall(newAccount()))
				if got := submitCall(newAccount()).do(e); got.code != impl.EnDone || got.engine.Seg != seg || got.engine.Count != 6 {
					t.Errorf("the sixth record of %d beside %d: %v", seg, name, got)
				}
			}
		}
		all := diskOf(60000, segsDisk(segsWithout(next, behind)...).Files...)
		checkEngineByWords(t, upEngine(all, smallBooks(), seg, 6), submitCall(newAccount()))
		if got := submitCall(newAccount()).do(upEngine(all, smallBooks(), seg, 6)); got.code != impl.EnDone || got.engine.Seg != next {
			t.Errorf("with all other segments behind %d: %v", seg, got)
		}
		for _, gap := range []int{next, behind} {
			checkStays(t, upEngine(diskOf(60000, segsDisk(segsWithout(gap)...).Files...), smallBooks(), seg, 6), submitCall(newAccount()), impl.EnFull)
		}
	}
}

// From new engines on 19 segments can be filled, and not one more until a save clears them.
func TestP17SubmitUntilAllSegmentsAreFull(t *testing.T) {
	row := longRow(130)
	records := recordsOf(row...)
	for from := range 20 {
		e := impl.EngineNew(60000)
		for range from {
			e, _ = impl.EngineSave(e)
		}
		for i := range 114 {
			next, _, code := impl.EngineSubmit(e, []byte(records[i]))
			if code != impl.EnDone || next.Seg != (from+i/6)%20 || next.Count != i%6+1 {
				t.Fatalf("record %d from %d on is %d: %s", i, from, code, engineText(next))
			}
			e = next
		}
		checkStays(t, e, submitCall([]byte(records[114])), impl.EnFull)
		for _, keep := range []int{0, 60000} {
			checkEngine(t, e, tornCall([]byte(records[114]), keep), enAnswer{engine: impl.Engine{Disk: e.Disk}})
		}
		down, _ := impl.EngineCrash(e, 0)
		checkEngine(t, down, openCall(), enAnswer{engine: e})
		saved, _ := impl.EngineSave(e)
		if saved.Seg != (from+19)%20 || saved.Count != 0 || len(saved.Disk.Files) != 1 {
			t.Fatalf("saved from %d on it is %s", from, engineText(saved))
		}
		next, _, code := impl.EngineSubmit(saved, []byte(records[114]))
		want, _ := wantRun(impl.BooksNew(), row[:115])
		if code != impl.EnDone || !sameBooks(next.Books, want) || next.Seg != (from+19)%20 || next.Count != 1 {
			t.Errorf("behind a save it is %d: %s", code, engineText(next))
		}
	}
}

// Just as much room as the record takes, and one byte less.
func TestP17SubmitRoom(t *testing.T) {
	for _, call := range doneCalls() {
		b := bytesOf(call)
		for _, rest := range [][]impl.File{{}, {fileOf(4, "s", "l")}, {fileOf(0, "", "m"), fileOf(21, "sa", "ve")}} {
			for count := range 7 {
				enough := tight(upEngine(diskOf(0, rest...), someBooks(), 4, count))
				enough.Disk.Room += len(rowOf(string(b)))
				checkEngineByWords(t, enough, submitCall(b))
				if got := submitCall(b).do(enough); got.code != impl.EnDone || len(rowOfFiles(got.engine.Disk)) != enough.Disk.Room {
					t.Errorf("%v of %s: %v", call, engineText(enough), got)
				}
				less := enough
				less.Disk.Room--
				checkStays(t, less, submitCall(b), impl.EnFull)
				checkStays(t, tight(less), submitCall(b), impl.EnFull)
			}
		}
	}
	checkStays(t, impl.EngineNew(0), submitCall(newAccount()), impl.EnFull)
}

func TestP17SubmitsByTheWords(t *testing.T) {
	codes := map[int]int{}
	inputs := [][]byte{nil, {1, 2}, newAccount(), bytesOf(accountCall(2, 1)), bytesOf(instrCall(900, impl.Cash))}
	for _, call := range slices.Concat(doneCalls(), allRightCalls()[:12]) {
		inputs = append(inputs, bytesOf(call))
	}
	for _, e := range upEngines() {
		for _, b := range inputs {
			checkEngineByWords(t, e, submitCall(b))
			codes[submitCall(b).do(e).code]++
		}
	}
	if codes[impl.EnDone] < 200 || codes[impl.EnParse] < 100 || codes[impl.EnRefused] < 200 || codes[impl.EnFull] < 100 {
		t.Error("the submits are too much alike", codes)
	}
}
