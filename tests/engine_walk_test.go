package tests

import (
	"bytes"
	"testing"

	"loop.example/g00110/impl"
)

// enginePlay is an engine, new at first, to which anything is done; beside it stand the books of all commands that were answered.
type enginePlay struct {
	engine impl.Engine
	books  impl.Books
	// torn are the books behind one command more, the one that was torn, if there is one that may be there.
	torn     impl.Books
	mayBe    bool
	answered int
	counts   map[string]int
}

func newPlay(room int, counts map[string]int) *enginePlay {
	return &enginePlay{engine: impl.EngineNew(room), counts: counts}
}

// submit wants what is told to be what the command comes to: a reply that tells another code is refused by the books, too.
func (p *enginePlay) submit(t *testing.T, b []byte) {
	t.Helper()
	next, told, code := impl.EngineSubmit(p.engine, b)
	c, _ := wantCmdRead(b)
	books, reply := wantApply(p.books, c)
	want, _ := wantReplyPack(reply)
	switch {
	case !p.engine.Up:
		want = nil
	case reply.Code == impl.BkDone && code == impl.EnFull:
		want = nil
		p.counts["full"]++
	case reply.Code == impl.BkDone && code == impl.EnDone:
		p.books = books
		p.answered++
		p.counts["answered"]++
	}
	if p.engine.Up && (code == impl.EnDone) != (reply.Code == impl.BkDone && code != impl.EnFull) || !bytes.Equal(told, want) {
		t.Errorf("submit of %v to %s tells %v, %d; want %v", b, engineText(p.engine), told, code, want)
	}
	p.engine = next
}

// crash is any kind of crash; where one that is torn was to be done, its command may be there.
func (p *enginePlay) crash(t *testing.T, c engineCall) {
	t.Helper()
	up := p.engine.Up
	if up && c.what == "torn" {
		command, _ := wantCmdRead(c.bytes)
		books, reply := wantApply(p.books, command)
		p.torn, p.mayBe = books, reply.Code == impl.BkDone
	}
	got := c.do(p.engine)
	if (got.code == impl.EnDone) != up || got.engine.Up {
		t.Errorf("%v of %s: %v", c, engineText(p.engine), got)
	}
	p.engine = got.engine
	if up {
		p.counts[c.what]++
	}
}

func (p *enginePlay) save(t *testing.T) {
	t.Helper()
	next, code := impl.EngineSave(p.engine)
	if p.engine.Up && code == impl.EnDone {
		p.counts["save"]++
		if next.Seg < p.engine.Seg {
			p.counts["round"]++
		}
	}
	if code != impl.EnDone && !sameEngine(next, p.engine) {
		t.Errorf("a save that is refused by %d turns %s to %s", code, engineText(p.engine), engineText(next))
	}
	p.engine = next
}

// open wants the books of all that was answered, and of one more at most, which from then on was answered, too.
func (p *enginePlay) open(t *testing.T) {
	t.Helper()
	down := !p.engine.Up
	next, code := impl.EngineOpen(p.engine)
	if (code == impl.EnDone) != down || !next.Up {
		t.Errorf("%s is opened: %d, %s", engineText(p.engine), code, engineText(next))
	}
	if down && p.mayBe && !sameBooks(p.books, p.torn) && sameBooks(next.Books, p.torn) {
		p.books = p.torn
		p.counts["one more"]++
	}
	if down {
		p.mayBe = false
		p.counts["open"]++
	}
	p.engine = next
}

// check wants the books of an engine that is up, and of each one that it may become by a crash at any point.
func (p *enginePlay) check(t *testing.T, keep int) {
	t.Helper()
	e := p.engine
	if !impl.EngineOk(e) || !engineRight(e) {
		t.Errorf("a wrong engine: %s", engineText(e))
	}
	if !e.Up {
		checkOpenedAgain(t, e, keep)
		return
	}
	if !sameBooks(e.Books, p.books) {
		t.Errorf("%s is up; want the books %v", engineText(e), p.books)
	}
	for steps := range 5 {
		down, _ := impl.EngineTornSave(e, steps, keep)
		if up, _ := impl.EngineOpen(down); !sameBooks(up.Books, p.books) {
			t.Errorf("%s behind %d steps and a crash has %s; want %v", engineText(e), steps, engineText(up), p.books)
		}
	}
}

// drawnBytesOf are the bytes of a drawn command, most of which the books do, or bytes of none.
func drawnBytesOf(b impl.Books, roll func(n int) int) []byte {
	if roll(25) == 0 {
		return drawnBytes(roll(1000), roll(12))
	}
	c := diceCmd(b, roll)
	// Without accounts and instruments books do little else, so these mostly come first.
	if first := openingRow(); len(b.Accounts)+len(b.Instrs) < len(first) && roll(5) > 0 {
		c = first[roll(len(first))]
	}
	packed, _ := wantCmdPack(c)
	return packed
}

// turn is one drawn turn: mostly submits while it is up, and an opening soon behind a crash.
func (p *enginePlay) turn(t *testing.T, roll func(n int) int, calm int) {
	t.Helper()
	keep := roll(40) - 3
	switch roll(calm) {
	case 0:
		p.crash(t, crashCall(keep))
	case 1, 2:
		p.crash(t, tornCall(drawnBytesOf(p.books, roll), keep))
	case 3:
		p.crash(t, tornSaveCall(roll(7)-1, roll(300)))
	case 4:
		p.save(t)
	case 5, 6, 7:
		p.open(t)
	default:
		if !p.engine.Up && roll(3) > 0 {
			p.open(t)
		}
		p.submit(t, drawnBytesOf(p.books, roll))
	}
}

// Of new engines, whatever is done to them: whenever one is opened, its books are those of all commands that were answered, and of one more at most.
func TestP17Walks(t *testing.T) {
	counts := map[string]int{}
	for seed := range 60 {
		roll := dice(90000 + seed)
		p := newPlay([]int{60000, 40 + roll(400), 300 + roll(2500)}[seed%3], counts)
		for range roll(20) {
			p.save(t)
		}
		for range 220 {
			p.turn(t, roll, []int{12, 30, 100}[seed/3%3])
			p.check(t, roll(300)-2)
		}
	}
	for what, least := range map[string]int{"answered": 2000, "full": 300, "crash": 200, "torn": 400, "torn save": 200, "save": 700, "round": 5, "open": 1000, "one more": 50} {
		if counts[what] < least {
			t.Error("the walks are too narrow", what, counts)
		}
	}
}

// The same, each answer held against the words.
func TestP17WalksByTheWords(t *testing.T) {
	codes := map[string]map[int]int{}
	for seed := range 30 {
		roll := dice(95000 + seed)
		e := impl.EngineNew([]int{60000, 40 + roll(400), 300 + roll(2500)}[seed%3])
		for range 200 {
			b, keep := drawnBytesOf(e.Books, roll), roll(40)-3
			calls := []engineCall{crashCall(keep), tornCall(b, keep), tornSaveCall(roll(7)-1, roll(300)), saveCall(), openCall()}
			c := submitCall(b)
			if place := roll(30); place < len(calls) {
				c = calls[place]
			} else if !e.Up && roll(2) == 0 {
				c = openCall()
			}
			checkEngineByWords(t, e, c)
			got := c.do(e)
			if codes[c.what] == nil {
				codes[c.what] = map[int]int{}
			}
			codes[c.what][got.code]++
			e = got.engine
		}
	}
	for what, least := range map[string][]int{
		"submit": {impl.EnDone, impl.EnDown, impl.EnParse, impl.EnRefused, impl.EnFull}, "save": {impl.EnDone, impl.EnDown, impl.EnFull}, "open": {impl.EnDone, impl.EnRefused},
		"crash": {impl.EnDone, impl.EnDown}, "torn": {impl.EnDone, impl.EnDown}, "torn save": {impl.EnDone, impl.EnDown},
	} {
		for _, code := range least {
			if codes[what][code] < 10 {
				t.Error("too few", what, code, codes[what])
			}
		}
	}
}

// Nothing but commands that are answered, and a crash behind each of them: opened, it has every one.
func TestP17EachAnswerIsThereBehindACrash(t *testing.T) {
	for _, row := range [][]impl.Cmd{smallRow(), longRow(114)} {
		e := impl.EngineNew(60000)
		for i, record := range recordsOf(row...) {
			next, told, code := impl.EngineSubmit(e, []byte(record))
			want, replies := wantRun(impl.BooksNew(), row[:i+1])
			if r, ok := wantReplyRead(told); code != impl.EnDone || !ok || r != replies[i] || !sameBooks(next.Books, want) {
				t.Fatalf("record %d is %d, %v: %s", i, code, told, engineText(next))
			}
			for _, keep := range []int{-1, 0, 5, 60000} {
				down, _ := impl.EngineCrash(next, keep)
				checkEngine(t, down, openCall(), enAnswer{engine: next})
			}
			// Every second one goes on from the engine that was opened.
			e = next
			if i%2 == 0 {
				down, _ := impl.EngineCrash(next, 0)
				e, _ = impl.EngineOpen(down)
			}
		}
	}
}

// One torn command behind another: each is there from its opening on or not at all, and never comes back later.
func TestP17ManyTornOnes(t *testing.T) {
	e, there := impl.EngineNew(60000), []impl.Account{}
	for no := 1; no <= 60 && len(there) < 18; no++ {
		b := bytesOf(accountCall(no, impl.Dealer))
		size := len(rowOf(string(b)))
		keep := no * 5 % (size + 3)
		down, _ := impl.EngineTorn(e, b, keep)
		if keep >= size {
			there = append(there, impl.Account{No: no, Kind: impl.Dealer})
		}
		for range 3 {
			e, _ = impl.EngineOpen(down)
			if !sameBooks(e.Books, impl.Books{Accounts: there}) {
				t.Fatalf("behind torn ones up to %d it is %s; want %v", no, engineText(e), there)
			}
			down, _ = impl.EngineCrash(e, keep)
		}
		e, _ = impl.EngineOpen(down)
		if no%9 == 0 {
			e, _ = impl.EngineSave(e)
		}
	}
	if len(there) < 10 {
		t.Error("too few of them are there", there)
	}
}
