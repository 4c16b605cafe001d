package tests

import (
	"slices"
	"strings"
	"testing"

	"loop.example/g00110/impl"
)

func sameCmds(a []impl.Cmd, b []impl.Cmd) bool {
	return slices.EqualFunc(a, b, func(x impl.Cmd, y impl.Cmd) bool { return x.Kind == y.Kind && slices.Equal(x.Args, y.Args) })
}

// wantAccepted are by the words the commands that a row submits and that are done.
func wantAccepted(e impl.Engine, list []impl.Deed) []impl.Cmd {
	cmds := []impl.Cmd{}
	_, codes := wantDeeds(e, list)
	for i, code := range codes {
		if list[i].Kind == 1 && code == 0 {
			c, _ := wantCmdRead([]byte(list[i].Bytes))
			cmds = append(cmds, c)
		}
	}
	return cmds
}

func checkAccepted(t *testing.T, e impl.Engine, list []impl.Deed, want ...impl.Cmd) {
	t.Helper()
	if got := impl.Accepted(e, list); !sameCmds(got, want) {
		t.Errorf("of %d deeds of %s %v are accepted; want %v", len(list), engineText(e), got, want)
	}
}

func checkAcceptedByWords(t *testing.T, e impl.Engine, list []impl.Deed) {
	t.Helper()
	checkAccepted(t, e, list, wantAccepted(e, list)...)
}

func TestP18AcceptedByHand(t *testing.T) {
	deeds, _ := deedsAndCodes(handRow())
	dealt := func(no int) impl.Cmd { return cmdOf(1, no, 1) }
	checkAccepted(t, impl.EngineNew(42), deeds, cmdOf(1, 1, 2), dealt(2), dealt(4), dealt(5), dealt(6))
	// With more room the account 7 is accepted, too; with less none from some point on.
	checkAccepted(t, impl.EngineNew(60000), deeds, cmdOf(1, 1, 2), dealt(2), dealt(4), dealt(5), dealt(6), dealt(7))
	checkAccepted(t, impl.EngineNew(8), deeds, cmdOf(1, 1, 2))
	checkAccepted(t, impl.EngineNew(7), deeds)
	checkAccepted(t, impl.EngineNew(60000), deedsOf(smallRow()...), smallRow()...)
	// Once more all that is told again is refused, and what moves is moved again.
	e, _ := impl.EngineRun(impl.EngineNew(60000), deedsOf(smallRow()...))
	again := []impl.Cmd{}
	for _, i := range []int{7, 8, 9, 17, 18, 19} {
		again = append(again, smallRow()[i])
	}
	checkAccepted(t, e, deedsOf(smallRow()...), again...)
}

// Neither what is refused, torn, not read or not right, nor what has no room, nor what comes while it is down.
func TestP18AcceptedOfNothing(t *testing.T) {
	e := upEngine(diskOf(60000), smallBooks(), 3, 2)
	b := newAccount()
	for _, d := range []impl.Deed{
		submitDeed(nil), submitDeed([]byte{99}), submitDeed(b[:3]), submitDeed(append(newAccount(), 0)), submitDeed(bytesOf(accountCall(1, 1))), submitDeed(bytesOf(cancelCall(999))),
		submitDeed(bytesOf(accountCall(0, 1))), tornDeed(b, 0), tornDeed(b, 5), tornDeed(b, 60000), saveDeed(), crashDeed(0), crashDeed(60000), tornSaveDeed(0, 0), tornSaveDeed(4, 60000), openDeed(),
		{}, {Kind: 7, Bytes: string(b)}, {Kind: 0, Bytes: string(b)}, {Kind: 1, Bytes: string(b), Steps: 1}, {Kind: 1, Bytes: string(b), Keep: 1}, {Kind: 1, Bytes: string(b) + strings.Repeat("\x00", 200)},
		{Kind: 2, Bytes: string(b)}, {Kind: 3, Bytes: string(b)}, {Kind: 5, Bytes: string(b)}, {Kind: 6, Bytes: string(b)},
	} {
		checkAccepted(t, e, []impl.Deed{d})
		checkAcceptedByWords(t, e, []impl.Deed{d, openDeed(), d, openDeed()})
		// It stands between what is accepted, and turns nothing of that.
		more, some := cmdOf(1, 901, 1), cmdOf(2, 902, 1)
		checkAccepted(t, e, slices.Concat([]impl.Deed{d, openDeed()}, deedsOf(more), []impl.Deed{d, openDeed()}, deedsOf(some), []impl.Deed{d}), more, some)
	}
	for _, e := range []impl.Engine{tight(e), blocked(e), {Disk: diskOf(60000)}, {}} {
		checkAccepted(t, e, []impl.Deed{submitDeed(b), submitDeed(b), tornDeed(b, 60000)})
	}
}

// There is nothing where a row has no codes.
func TestP18AcceptedWithoutCodes(t *testing.T) {
	deeds := deedsOf(smallRow()...)
	for _, e := range wrongEngines() {
		checkAccepted(t, e, nil)
		checkAccepted(t, e, deeds)
		checkAccepted(t, e, []impl.Deed{submitDeed(newAccount())})
		checkAccepted(t, e, []impl.Deed{openDeed(), submitDeed(newAccount())})
	}
	for i, e := range append(slices.Concat(upEngines(), downEngines()), impl.EngineNew(60000)) {
		checkAccepted(t, e, nil)
		checkAccepted(t, e, []impl.Deed{})
		if i%6 == 0 {
			checkAccepted(t, e, append(slices.Clone(deeds), make([]impl.Deed, 181)...))
			checkAccepted(t, e, append(make([]impl.Deed, 181), deeds...))
			checkAccepted(t, e, slices.Repeat(deeds, 20))
		}
	}
	// With just as many as there may be there is all.
	checkAccepted(t, impl.EngineNew(60000), append(slices.Clone(deeds), make([]impl.Deed, 180)...), smallRow()...)
	checkAccepted(t, impl.EngineNew(60000), append(make([]impl.Deed, 180), deeds...), smallRow()...)
	checkAccepted(t, impl.EngineNew(60000), append(slices.Clone(deeds), make([]impl.Deed, 600)...)[:20], smallRow()...)
}

// As many as a row can have are accepted, in their order, across saves and crashes.
func TestP18AcceptedOfALongRow(t *testing.T) {
	deeds, want := []impl.Deed{}, longRow(190)
	for i, d := range deedsOf(want...) {
		if i%60 == 59 {
			deeds = append(deeds, saveDeed())
		}
		if i%80 == 79 {
			deeds = append(deeds, crashDeed(3), openDeed())
		}
		deeds = append(deeds, d)
	}
	deeds = append(deeds, make([]impl.Deed, 200-len(deeds))...)
	checkAccepted(t, impl.EngineNew(60000), deeds, want...)
	e, _ := impl.EngineRun(impl.EngineNew(60000), deeds)
	if books, _ := wantRun(impl.BooksNew(), want); !sameBooks(e.Books, books) {
		t.Errorf("behind all of them it is %s", engineText(e))
	}
}

// Each kind of command is told as it is read.
func TestP18AcceptedOfEachCommand(t *testing.T) {
	kinds := map[int]int{}
	for i, c := range slices.Concat(doneCharts(), doneMoves(), doneCorps()) {
		e := upEngine(diskOf(60000), c.given, i%20, i%7)
		checkAccepted(t, e, deedsOf(c.call.cmd()), c.call.cmd())
		kinds[c.call.cmd().Kind]++
	}
	if len(kinds) != 11 {
		t.Error("kinds", kinds)
	}
	for _, c := range allRefused() {
		checkAccepted(t, upEngine(diskOf(60000), c.given, 3, 3), deedsOf(c.call.cmd()))
	}
}

func TestP18AcceptedByTheWords(t *testing.T) {
	for i, e := range slices.Concat(upEngines(), downEngines()) {
		if i%2 == 0 {
			checkAcceptedByWords(t, e, append([]impl.Deed{openDeed()}, someDeeds()...))
			checkAcceptedByWords(t, e, someDeeds()[i%20:])
		}
	}
	accepted := 0
	for seed := range 40 {
		roll := dice(188000 + seed)
		e := impl.EngineNew(drawnRoom(seed, roll))
		list := drawnDeeds(e, 200, roll, []int{14, 30, 100}[seed/3%3])
		checkAcceptedByWords(t, e, list)
		// Those of a row are those of its halves.
		half, _ := impl.EngineRun(e, list[:seed])
		checkAccepted(t, e, list, slices.Concat(impl.Accepted(e, list[:seed]), impl.Accepted(half, list[seed:]))...)
		accepted += len(impl.Accepted(e, list))
	}
	if accepted < 500 {
		t.Error("too few are accepted", accepted)
	}
}
