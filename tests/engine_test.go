package tests

import (
	"bytes"
	"fmt"
	"math"
	"slices"
	"strings"
	"testing"

	"loop.example/g00110/impl"
)

// engineCall is one of the calls that turn an engine; those that submit have bytes, those that crash what is kept.
type engineCall struct {
	what  string
	bytes []byte
	steps int
	keep  int
}

func submitCall(b []byte) engineCall         { return engineCall{what: "submit", bytes: b} }
func saveCall() engineCall                   { return engineCall{what: "save"} }
func crashCall(keep int) engineCall          { return engineCall{what: "crash", keep: keep} }
func tornCall(b []byte, keep int) engineCall { return engineCall{what: "torn", bytes: b, keep: keep} }
func openCall() engineCall                   { return engineCall{what: "open"} }
func tornSaveCall(steps int, keep int) engineCall {
	return engineCall{what: "torn save", steps: steps, keep: keep}
}

func (c engineCall) String() string {
	return fmt.Sprintf("%s of %v.. (%d bytes), steps %d, keep %d", c.what, c.bytes[:min(len(c.bytes), 12)], len(c.bytes), c.steps, c.keep)
}

// enAnswer is what a call tells: the engine, the bytes beside it, and the code.
type enAnswer struct {
	engine impl.Engine
	told   []byte
	code   int
}

func (a enAnswer) String() string {
	return fmt.Sprintf("%s, %v, %d", engineText(a.engine), a.told, a.code)
}

func (c engineCall) do(e impl.Engine) enAnswer {
	a := enAnswer{}
	switch c.what {
	case "submit":
		a.engine, a.told, a.code = impl.EngineSubmit(e, c.bytes)
	case "save":
		a.engine, a.code = impl.EngineSave(e)
	case "crash":
		a.engine, a.code = impl.EngineCrash(e, c.keep)
	case "torn":
		a.engine, a.code = impl.EngineTorn(e, c.bytes, c.keep)
	case "torn save":
		a.engine, a.code = impl.EngineTornSave(e, c.steps, c.keep)
	case "open":
		a.engine, a.code = impl.EngineOpen(e)
	}
	return a
}

// want says by the words what a call tells.
func (c engineCall) want(e impl.Engine) enAnswer {
	switch {
	case !engineRight(e):
		return enAnswer{code: impl.EnBad}
	case c.what == "open" && e.Up:
		return enAnswer{engine: e, code: impl.EnRefused}
	case c.what == "open":
		return enAnswer{engine: wantUp(e)}
	case !e.Up:
		return enAnswer{engine: e, code: impl.EnDown}
	case c.what == "submit":
		return wantSubmit(e, c.bytes)
	case c.what == "save":
		return wantSaved(e)
	}
	return enAnswer{engine: impl.Engine{Disk: wantCrash(c.wantAhead(e), c.keep)}}
}

func wantSubmit(e impl.Engine, b []byte) enAnswer {
	stays := func(r impl.Reply, code int) enAnswer {
		told, _ := wantReplyPack(r)
		return enAnswer{e, told, code}
	}
	c, ok := wantCmdRead(b)
	if len(b) > 200 || !ok {
		return stays(impl.Reply{Code: impl.BkBad}, impl.EnParse)
	}
	books, reply := wantApply(e.Books, c)
	if reply.Code != impl.BkDone {
		return stays(reply, impl.EnRefused)
	}
	seg, count := e.Seg, e.Count
	if count == 6 {
		seg, count = (seg+1)%20, 0
		if fileThere(e.Disk, seg) || fileThere(e.Disk, (seg+1)%20) {
			return enAnswer{engine: e, code: impl.EnFull}
		}
	}
	d, code := segAddCall(seg, string(b)).want(e.Disk)
	if code != impl.DiskDone {
		return enAnswer{engine: e, code: impl.EnFull}
	}
	told, _ := wantReplyPack(reply)
	return enAnswer{upEngine(d, books, seg, count+1), told, impl.EnDone}
}

func wantSaved(e impl.Engine) enAnswer {
	d, code := saveWriteCall{saveBehind(e)}.want(e.Disk)
	if code != impl.DiskDone {
		return enAnswer{engine: e, code: impl.EnFull}
	}
	return enAnswer{engine: upEngine(d, e.Books, (e.Seg+1)%20, 0)}
}

// wantAhead is the disk ahead of a crash: with a late record, or with the first steps of a save.
func (c engineCall) wantAhead(e impl.Engine) impl.Disk {
	d := e.Disk
	if c.what == "torn" {
		if next := wantSubmit(e, c.bytes); next.code == impl.EnDone {
			d, _ = segLateCall(next.engine.Seg, string(c.bytes)).want(d)
		}
	}
	if c.what == "torn save" && c.steps >= 0 && c.steps <= 4 {
		for k := range c.steps {
			next, code := saveStepCall{saveBehind(e), k}.want(d)
			if code != impl.DiskDone {
				break
			}
			d = next
		}
	}
	return d
}

func wantUp(e impl.Engine) impl.Engine {
	d := withoutFiles(e.Disk, 20)
	s, _ := wantSaveLoad(d)
	next, goesOn := upEngine(d, s.Books, s.From, 0), true
	segs := wantSegsFrom(d, s.From)
	for _, seg := range segs {
		records, size := wantSegRead(d, seg)
		for _, record := range records {
			c, ok := wantCmdRead([]byte(record))
			books, reply := wantApply(next.Books, c)
			if goesOn = goesOn && ok && reply.Code == impl.BkDone; goesOn {
				next.Books = books
			}
		}
		text, _ := wantDiskRead(d, seg)
		next.Disk = withFile(next.Disk, fileOf(seg, text[:size], ""))
		next.Seg, next.Count = seg, len(records)
	}
	next.Disk = wantSegsClear(next.Disk, segs)
	return next
}

func upEngine(d impl.Disk, b impl.Books, seg int, count int) impl.Engine {
	return impl.Engine{Up: true, Disk: d, Books: b, Seg: seg, Count: count}
}

func saveBehind(e impl.Engine) impl.Save { return saveOf((e.Seg+1)%20, e.Books) }

func fileThere(d impl.Disk, name int) bool {
	return slices.ContainsFunc(d.Files, func(f impl.File) bool { return f.Name == name })
}

func engineRight(e impl.Engine) bool {
	if !diskRight(e.Disk) {
		return false
	}
	if e.Up {
		return booksRight(e.Books) && segRight(e.Seg) && 0 <= e.Count && e.Count <= 6
	}
	late := strings.Builder{}
	for _, f := range e.Disk.Files {
		late.WriteString(f.Late)
	}
	return late.Len() == 0 && sameBooks(e.Books, impl.Books{}) && e.Seg == 0 && e.Count == 0
}

func sameEngine(a impl.Engine, b impl.Engine) bool {
	return a.Up == b.Up && sameDisk(a.Disk, b.Disk) && sameBooks(a.Books, b.Books) && a.Seg == b.Seg && a.Count == b.Count
}

func cloneEngine(e impl.Engine) impl.Engine {
	return impl.Engine{Up: e.Up, Disk: cloneDisk(e.Disk), Books: cloneBooks(e.Books), Seg: e.Seg, Count: e.Count}
}

func engineText(e impl.Engine) string {
	return fmt.Sprintf("{up %v, seg %d, count %d, %s, %s}", e.Up, e.Seg, e.Count, saveText(saveOf(e.Seg, e.Books)), diskText(e.Disk))
}

// checkEngine wants one answer of a call, and, whatever it is, that the engine that is told is right: zero is, too.
func checkEngine(t *testing.T, e impl.Engine, c engineCall, want enAnswer) {
	t.Helper()
	got := c.do(e)
	if !sameEngine(got.engine, want.engine) || !bytes.Equal(got.told, want.told) || got.code != want.code {
		t.Errorf("%v of %s = %v; want %v", c, engineText(e), got, want)
	}
	if !impl.EngineOk(got.engine) || !engineRight(got.engine) || got.code == impl.EnDone && got.engine.Disk.Room != e.Disk.Room {
		t.Errorf("%v of %s is a wrong engine: %v", c, engineText(e), got)
	}
}

func checkEngineByWords(t *testing.T, e impl.Engine, c engineCall) {
	t.Helper()
	checkEngine(t, e, c, c.want(e))
}

// checkStays wants a call to tell that code, the engine as it was, and these bytes.
func checkStays(t *testing.T, e impl.Engine, c engineCall, code int, told ...byte) {
	t.Helper()
	checkEngine(t, e, c, enAnswer{e, told, code})
}

func checkEngineBad(t *testing.T, e impl.Engine, c engineCall) {
	t.Helper()
	checkEngine(t, e, c, enAnswer{code: impl.EnBad})
}

func checkEngineOk(t *testing.T, e impl.Engine, want bool) {
	t.Helper()
	if got := impl.EngineOk(e); got != want {
		t.Errorf("EngineOk(%s) = %v", engineText(e), got)
	}
}

// upEngines run, on disks of all kinds, with what is late, with segments that are there and such that are not.
func upEngines() []impl.Engine {
	books := []impl.Books{impl.BooksNew(), smallBooks(), someBooks(), farBooks(), fullBooks(), {Lot: lastNo}}
	disks := []impl.Disk{
		{}, diskOf(60000), diskOf(30), ableDisk(), diskOf(60000, ableDisk().Files...), someDisk(), fullDisk(), diskOf(60000, fullDisk().Files...),
		diskOf(60000, fileOf(3, "s", "l"), fileOf(20, "n", "o"), fileOf(21, "p", "q")), segsDisk(1, 2, 3, 19), wideDisk(),
	}
	list := []impl.Engine{}
	for i, d := range disks {
		for j, b := range books {
			list = append(list, upEngine(d, b, (7*i+3*j)%20, (i+2*j)%7), upEngine(d, b, []int{0, 19, 18}[j%3], 6))
		}
	}
	return list
}

// downEngines do not run, and have nothing late.
func downEngines() []impl.Engine {
	list := []impl.Engine{{}}
	for _, d := range slices.Concat(rightDisks(), saveDisks()[:60], []impl.Disk{ableDisk(), diskOf(60000, ableDisk().Files...), segsDisk(0, 1, 2, 3, 18, 19)}) {
		list = append(list, impl.Engine{Disk: wantCrash(d, 2)}, impl.Engine{Disk: wantCrash(d, 60000)})
	}
	return list
}

// wrongEngines are wrong by one thing each.
func wrongEngines() []impl.Engine {
	list := []impl.Engine{}
	for _, d := range slices.Concat(wrongDisks(), wrongSegDisks()[:10]) {
		list = append(list, impl.Engine{Disk: d}, upEngine(d, impl.BooksNew(), 0, 0), upEngine(d, someBooks(), 19, 6))
	}
	for _, b := range slices.Concat(wrongBooks()[:30], wrongBooksByHand(), booksOfWrongBals(), booksOfMisfitLots(), booksOfMisfitTrades()) {
		list = append(list, upEngine(diskOf(60000), b, 0, 0))
	}
	for _, seg := range noSegs() {
		list = append(list, upEngine(diskOf(60000), impl.BooksNew(), seg, 0), upEngine(someDisk(), someBooks(), seg, 6), impl.Engine{Disk: diskOf(60000), Seg: seg})
	}
	for _, count := range noCounts() {
		list = append(list, upEngine(diskOf(60000), impl.BooksNew(), 0, count), upEngine(someDisk(), someBooks(), 19, count), impl.Engine{Disk: diskOf(60000), Count: count})
	}
	return append(list, wrongDownEngines()...)
}

// noCounts are numbers of records that no segment has.
func noCounts() []int {
	return []int{math.MinInt, -7, -6, -2, -1, 7, 8, 12, 20, 256, 1 << 32, 1<<32 + 3, math.MaxInt}
}

// wrongDownEngines do not run, and have something that one that runs may have.
func wrongDownEngines() []impl.Engine {
	list := []impl.Engine{}
	for name := range 22 {
		list = append(list, impl.Engine{Disk: diskOf(9, fileOf(name, "", "a"))}, impl.Engine{Disk: diskOf(9, fileOf(name, "ab", "\x00"))})
	}
	list = append(list, impl.Engine{Disk: someDisk()}, impl.Engine{Disk: diskOf(9, fileOf(1, "a", ""), fileOf(2, "b", ""), fileOf(3, "c", "d"))}, impl.Engine{Disk: diskOf(9, fileOf(1, "a", "x"), fileOf(2, "b", ""))})
	for _, b := range []impl.Books{{Lot: 1}, {Lot: -1}, {Lot: lastNo}, someBooks(), {Accounts: chartOf(1, 1)}, {Instrs: instrsOf(1, 1)}, {Bals: make([]impl.Bal, 1)}, {Lots: make([]impl.Lot, 1)}, {Trades: make([]impl.Trade, 1)}} {
		list = append(list, impl.Engine{Books: b}, impl.Engine{Disk: diskOf(60000, fileOf(0, rowOf("a"), "")), Books: b})
	}
	for seg := 1; seg < 20; seg++ {
		list = append(list, impl.Engine{Seg: seg}, impl.Engine{Disk: diskOf(9), Seg: seg})
	}
	for count := 1; count < 7; count++ {
		list = append(list, impl.Engine{Count: count}, impl.Engine{Disk: diskOf(9), Count: count})
	}
	return list
}

func TestP17Constants(t *testing.T) {
	if impl.MaxInput != 200 || impl.MaxDeeds != 200 {
		t.Error("limits", impl.MaxInput, impl.MaxDeeds)
	}
	for want, got := range []int{impl.EnDone, impl.EnBad, impl.EnDown, impl.EnParse, impl.EnRefused, impl.EnFull} {
		if got != want {
			t.Errorf("code %d is %d", want, got)
		}
	}
}

func TestP17EnginesThatAreOk(t *testing.T) {
	for _, e := range slices.Concat(upEngines(), downEngines()) {
		checkEngineOk(t, e, true)
	}
	for _, e := range wrongEngines() {
		checkEngineOk(t, e, false)
	}
}

// Each segment and each count of one that is up; of one that is down just 0 of both.
func TestP17SegAndCountOfAnEngine(t *testing.T) {
	for seg := -5; seg < 30; seg++ {
		for count := -5; count < 15; count++ {
			for _, b := range []impl.Books{{}, smallBooks()} {
				checkEngineOk(t, upEngine(someDisk(), b, seg, count), 0 <= seg && seg < 20 && 0 <= count && count <= 6)
			}
			checkEngineOk(t, impl.Engine{Disk: diskOf(9, fileOf(3, "a", "")), Seg: seg, Count: count}, seg == 0 && count == 0)
		}
	}
}

// Empty lists of one that is down are none, and what stands behind them is no part of it.
func TestP17EmptyListsOfADownEngine(t *testing.T) {
	b := impl.Books{Accounts: []impl.Account{}, Instrs: []impl.Instr{}, Bals: []impl.Bal{}, Lots: []impl.Lot{}, Trades: []impl.Trade{}}
	checkEngineOk(t, impl.Engine{Disk: impl.Disk{Files: []impl.File{}}, Books: b}, true)
	some := someBooks()
	checkEngineOk(t, impl.Engine{Books: impl.Books{Accounts: some.Accounts[:0], Bals: some.Bals[:0], Trades: some.Trades[:0]}}, true)
	late := []impl.File{fileOf(1, "a", ""), fileOf(2, "b", "c")}
	checkEngineOk(t, impl.Engine{Disk: impl.Disk{Room: 9, Files: late[:1]}}, true)
	checkEngineOk(t, impl.Engine{Disk: impl.Disk{Room: 9, Files: late}}, false)
}

func TestP17NewEngines(t *testing.T) {
	for room, ok := range map[int]bool{math.MinInt: false, -60000: false, -2: false, -1: false, 0: true, 1: true, 1000: true, 59999: true, 60000: true, 60001: false, 1 << 32: false, math.MaxInt: false} {
		want := impl.Engine{}
		if ok {
			want = upEngine(diskOf(room), impl.Books{}, 0, 0)
		}
		if got := impl.EngineNew(room); !sameEngine(got, want) || !impl.EngineOk(got) {
			t.Errorf("EngineNew(%d) = %s", room, engineText(got))
		}
	}
}
