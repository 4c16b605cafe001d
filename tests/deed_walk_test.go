package tests

import (
	"slices"
	"testing"

	"loop.example/g00110/impl"
)

// deedPlay is a new engine to which deeds are done; beside it stand all commands that its books are to have.
type deedPlay struct {
	engine impl.Engine
	cmds   []impl.Cmd
	// torn is there from the next opening on or not at all: it is, where it would have been done and all of its record was kept.
	torn   impl.Cmd
	comes  bool
	counts map[string]int
}

// booksOf are the books of all these commands from new books on, in rows that are as long as they can be.
func booksOf(t *testing.T, cmds []impl.Cmd) impl.Books {
	t.Helper()
	b := impl.BooksNew()
	for row := range slices.Chunk(cmds, 300) {
		next, replies := impl.CmdRun(b, row)
		for i, r := range replies {
			if r.Code != impl.BkDone {
				t.Errorf("%v was done, and is refused by %d in its row", row[i], r.Code)
			}
		}
		b = next
	}
	return b
}

// do wants an engine that is up to have the books of all that was answered, and of the torn ones that came.
func (p *deedPlay) do(t *testing.T, d impl.Deed) int {
	t.Helper()
	ahead := p.engine
	next, codes := impl.EngineRun(ahead, []impl.Deed{d})
	if len(codes) != 1 || !impl.EngineOk(next) {
		t.Fatalf("%s of %s: %s, %v", deedText(d), engineText(ahead), engineText(next), codes)
	}
	p.engine = next
	if codes[0] != impl.EnDone {
		if !sameEngine(next, ahead) {
			t.Errorf("%s is %d, and turns %s to %s", deedText(d), codes[0], engineText(ahead), engineText(next))
		}
		return codes[0]
	}
	c, _ := wantCmdRead([]byte(d.Bytes))
	switch d.Kind {
	case impl.DoSubmit:
		p.cmds = append(p.cmds, c)
		p.counts["answered"]++
	case impl.DoTorn:
		p.torn, p.comes = c, wantSubmit(ahead, []byte(d.Bytes)).code == impl.EnDone && d.Keep >= len(rowOf(d.Bytes))
		p.counts["torn"]++
	case impl.DoOpen:
		if p.comes {
			p.cmds = append(p.cmds, p.torn)
			p.counts["one more"]++
		}
		p.comes = false
		p.counts["open"]++
	case impl.DoSave:
		p.counts["save"]++
	case impl.DoCrash, impl.DoTornSave:
		p.counts["crash"]++
	}
	return codes[0]
}

func (p *deedPlay) check(t *testing.T, keep int) {
	t.Helper()
	up, want := p.engine, p.cmds
	if !up.Up {
		up, _ = impl.EngineRun(up, []impl.Deed{openDeed()})
		if p.comes {
			want = append(slices.Clone(want), p.torn)
		}
	}
	if books := booksOf(t, want); !up.Up || !sameBooks(up.Books, books) {
		t.Errorf("%s, opened %s, has not the books of %v", engineText(p.engine), engineText(up), want)
	}
	// Any crash then, and any opening, and it has them still.
	for _, crash := range []impl.Deed{crashDeed(keep), tornSaveDeed(keep%5, keep), tornDeed(nil, keep), tornDeed(newAccount(), 0)} {
		again, codes := impl.EngineRun(up, []impl.Deed{crash, openDeed(), openDeed(), crashDeed(keep), openDeed()})
		if !slices.Equal(codes, []int{0, 0, impl.EnRefused, 0, 0}) || !sameBooks(again.Books, up.Books) {
			t.Errorf("%s behind %s is %s, %v", engineText(up), deedText(crash), engineText(again), codes)
		}
	}
}

// Of new engines, behind rows of deeds: whenever one is up its books are those of all commands that were answered, and of one more at most for each torn one.
func TestP17WalksOverDeeds(t *testing.T) {
	counts := map[string]int{}
	for seed := range 60 {
		roll := dice(170000 + seed)
		given := impl.EngineNew(drawnRoom(seed, roll))
		list := drawnDeeds(given, 200, roll, []int{14, 25, 60}[seed/3%3])
		p, codes := &deedPlay{engine: given, counts: counts}, []int{}
		answered := []impl.Cmd{}
		for i, d := range list {
			had := len(p.cmds)
			codes = append(codes, p.do(t, d))
			if d.Kind == impl.DoSubmit {
				answered = append(answered, p.cmds[had:]...)
			}
			if i%7 == seed%7 || i == 199 {
				p.check(t, roll(300))
				checkAccepted(t, given, list[:i+1], answered...)
			}
		}
		checkDeeds(t, given, list, p.engine, codes)
	}
	for what, least := range map[string]int{"answered": 1500, "torn": 300, "open": 800, "one more": 60, "save": 200, "crash": 300} {
		if counts[what] < least {
			t.Error("the walks are too narrow", what, counts)
		}
	}
}

// Where nothing is torn, the books are just those of the commands that are accepted.
func TestP17AcceptedMakeTheBooks(t *testing.T) {
	for seed := range 60 {
		roll := dice(175000 + seed)
		given := impl.EngineNew(drawnRoom(seed, roll))
		list := drawnDeeds(given, 200, roll, 30)
		for i := range list {
			if list[i].Kind == impl.DoTorn {
				list[i] = crashDeed(i)
			}
		}
		for _, n := range []int{0, 1, 10, 50, 100, 150, 199} {
			e, _ := impl.EngineRun(given, append(slices.Clone(list[:n]), openDeed()))
			if want := booksOf(t, impl.Accepted(given, list[:n])); !e.Up || !sameBooks(e.Books, want) {
				t.Errorf("behind %d deeds of seed %d it is %s", n, seed, engineText(e))
			}
		}
	}
}

// A torn command at each point of a row and at each byte: it is there, where all of it was kept, from its opening on, and else never.
func TestP17TornDeedsAreThereOrNot(t *testing.T) {
	row := smallRow()
	for at := range len(row) {
		b := []byte(recordsOf(row[at])[0])
		size := len(rowOf(string(b)))
		for keep := range size + 2 {
			torn := []impl.Deed{tornDeed(b, keep), openDeed()}
			e, codes := impl.EngineRun(impl.EngineNew(60000), append(deedsOf(row[:at]...), torn...))
			n := at
			if keep >= size {
				n++
			}
			want, _ := wantRun(impl.BooksNew(), row[:n])
			if slices.Max(codes) > 0 || !sameBooks(e.Books, want) {
				t.Errorf("%v torn at %d: %s, %v", row[at], keep, engineText(e), codes)
			}
			// The rest of the row goes on from there, and so does one more crash.
			rest := append(deedsOf(row[n:]...), crashDeed(keep), openDeed())
			e, codes = impl.EngineRun(e, rest)
			if slices.Max(codes) > 0 || !sameBooks(e.Books, smallBooks()) {
				t.Errorf("%v torn at %d, and all the others behind it: %s, %v", row[at], keep, engineText(e), codes)
			}
			checkAccepted(t, impl.EngineNew(60000), slices.Concat(deedsOf(row[:at]...), torn, rest), append(slices.Clone(row[:at]), row[n:]...)...)
		}
	}
}

// Saves at any points, torn behind any step, and crashes between all deeds lose nothing.
func TestP17DeedsWithCrashesBetween(t *testing.T) {
	row := smallRow()
	for steps := range 5 {
		for _, keep := range []int{0, 1, 9, 60, 60000} {
			list, want := []impl.Deed{}, []int{}
			for i, d := range deedsOf(row...) {
				list = append(list, d, tornSaveDeed((steps+i)%5, keep), openDeed(), crashDeed(keep), saveDeed(), openDeed())
				want = append(want, 0, 0, 0, 0, impl.EnDown, 0)
				if i%3 == steps%3 {
					list, want = append(list, saveDeed(), tornDeed(newAccount(), 8), openDeed()), append(want, 0, 0, 0)
				}
			}
			e, codes := impl.EngineRun(impl.EngineNew(60000), list)
			if !slices.Equal(codes, want) || !sameBooks(e.Books, smallBooks()) {
				t.Errorf("with crashes between behind %d steps, %d kept: %s, %v", steps, keep, engineText(e), codes)
			}
			checkAccepted(t, impl.EngineNew(60000), list, row...)
		}
	}
}
