package tests

import (
	"bytes"
	"fmt"
	"math"
	"slices"
	"strings"
	"testing"

	"loop.example/g00110/impl"
)

// deedKind is a kind of deed by its number, the call that it is, and what it has.
type deedKind struct {
	kind  int
	what  string
	bytes bool
	steps bool
	keep  bool
}

func deedKinds() []deedKind {
	return []deedKind{
		{kind: 1, what: "submit", bytes: true}, {kind: 2, what: "save"}, {kind: 3, what: "crash", keep: true},
		{kind: 4, what: "torn", bytes: true, keep: true}, {kind: 5, what: "torn save", steps: true, keep: true}, {kind: 6, what: "open"},
	}
}

func deedKindOf(kind int) (deedKind, bool) {
	for _, k := range deedKinds() {
		if k.kind == kind {
			return k, true
		}
	}
	return deedKind{}, false
}

func submitDeed(b []byte) impl.Deed { return impl.Deed{Kind: impl.DoSubmit, Bytes: string(b)} }
func saveDeed() impl.Deed           { return impl.Deed{Kind: impl.DoSave} }
func crashDeed(keep int) impl.Deed  { return impl.Deed{Kind: impl.DoCrash, Keep: keep} }
func openDeed() impl.Deed           { return impl.Deed{Kind: impl.DoOpen} }
func tornDeed(b []byte, keep int) impl.Deed {
	return impl.Deed{Kind: impl.DoTorn, Bytes: string(b), Keep: keep}
}
func tornSaveDeed(steps int, keep int) impl.Deed {
	return impl.Deed{Kind: impl.DoTornSave, Steps: steps, Keep: keep}
}

func deedText(d impl.Deed) string {
	return fmt.Sprintf("{kind %d, %s, steps %d, keep %d}", d.Kind, short(d.Bytes), d.Steps, d.Keep)
}

// deedRight takes what a kind has from 1 on, and what it has not just where that is zero.
func deedRight(d impl.Deed) bool {
	k, ok := deedKindOf(d.Kind)
	text := d.Bytes == "" || k.bytes && len(d.Bytes) <= 200
	steps := d.Steps == 0 || k.steps && 1 <= d.Steps && d.Steps <= 4
	keep := d.Keep == 0 || k.keep && 1 <= d.Keep && d.Keep <= 60000
	return ok && text && steps && keep
}

// deedCall is the call that a right deed is.
func deedCall(d impl.Deed) engineCall {
	k, _ := deedKindOf(d.Kind)
	return engineCall{what: k.what, bytes: []byte(d.Bytes), steps: d.Steps, keep: d.Keep}
}

func doDeed(e impl.Engine, d impl.Deed) enAnswer {
	next, told, code := impl.EngineDo(e, d)
	return enAnswer{next, []byte(told), code}
}

func wantDo(e impl.Engine, d impl.Deed) enAnswer {
	if !deedRight(d) {
		return enAnswer{code: impl.EnBad}
	}
	return deedCall(d).want(e)
}

func checkDeedOk(t *testing.T, d impl.Deed, want bool) {
	t.Helper()
	if got := impl.DeedOk(d); got != want {
		t.Errorf("DeedOk(%s) = %v", deedText(d), got)
	}
}

// checkDo wants one answer of a deed, and that of a deed that is right its own call tells just the same.
func checkDo(t *testing.T, e impl.Engine, d impl.Deed, want enAnswer) {
	t.Helper()
	got := doDeed(e, d)
	if !got.same(want) || !impl.EngineOk(got.engine) {
		t.Errorf("%s of %s = %v; want %v", deedText(d), engineText(e), got, want)
	}
	if !deedRight(d) {
		return
	}
	if own := deedCall(d).do(e); !got.same(own) {
		t.Errorf("%s of %s = %v; its call tells %v", deedText(d), engineText(e), got, own)
	}
}

func checkDoByWords(t *testing.T, e impl.Engine, d impl.Deed) {
	t.Helper()
	checkDo(t, e, d, wantDo(e, d))
}

func checkDoBad(t *testing.T, e impl.Engine, d impl.Deed) {
	t.Helper()
	checkDo(t, e, d, enAnswer{code: impl.EnBad})
}

// deedTexts are texts that a deed may have: bytes of all kinds, up to just as many as there may be.
func deedTexts() []string {
	return []string{"", "\x00", "x", "\xff\x80\n", string(newAccount()), allBytes()[56:], strings.Repeat("\x06", 199), strings.Repeat("é", 100), string(append(newAccount(), make([]byte, 196)...))}
}

func longTexts() []string {
	return []string{strings.Repeat("\x00", 201), strings.Repeat("€", 67), string(append(newAccount(), make([]byte, 197)...)), strings.Repeat("x", 202), allBytes(), strings.Repeat("x", 70000)}
}

func wrongDeedKinds() []int {
	return []int{math.MinInt, -6, -1, 0, 7, 8, 12, 256, 257, 1 << 32, 1<<32 + 1, 1<<32 + 6, math.MaxInt}
}

func wrongDeedSteps() []int {
	return []int{math.MinInt, math.MinInt + 2, -4, -2, -1, 5, 6, 8, 256, 1 << 32, 1<<32 + 3, math.MaxInt}
}

func wrongDeedKeeps() []int {
	return []int{math.MinInt, math.MinInt + 9, -60000, -2, -1, 60001, 60002, 120000, 1 << 32, 1<<32 + 5, math.MaxInt}
}

// rightDeeds are deeds of each kind with all that it may have.
func rightDeeds() []impl.Deed {
	list := []impl.Deed{saveDeed(), openDeed()}
	keeps := []int{0, 1, 2, 7, 200, 59999, 60000}
	for _, keep := range keeps {
		list = append(list, crashDeed(keep))
		for steps := range 5 {
			list = append(list, tornSaveDeed(steps, keep))
		}
	}
	for _, text := range deedTexts() {
		list = append(list, submitDeed([]byte(text)))
		for _, keep := range keeps {
			list = append(list, tornDeed([]byte(text), keep))
		}
	}
	return list
}

// wrongDeeds are wrong by one thing each.
func wrongDeeds() []impl.Deed {
	list := []impl.Deed{}
	for _, kind := range wrongDeedKinds() {
		list = append(list, impl.Deed{Kind: kind}, impl.Deed{Kind: kind, Bytes: string(newAccount())}, impl.Deed{Kind: kind, Steps: 2}, impl.Deed{Kind: kind, Keep: 5})
	}
	for _, text := range longTexts() {
		list = append(list, impl.Deed{Kind: 1, Bytes: text}, impl.Deed{Kind: 4, Bytes: text}, impl.Deed{Kind: 4, Bytes: text, Keep: 9})
	}
	for _, steps := range wrongDeedSteps() {
		list = append(list, impl.Deed{Kind: 5, Steps: steps}, impl.Deed{Kind: 5, Steps: steps, Keep: 9})
	}
	for _, keep := range wrongDeedKeeps() {
		list = append(list, impl.Deed{Kind: 3, Keep: keep}, impl.Deed{Kind: 4, Keep: keep}, impl.Deed{Kind: 4, Bytes: string(newAccount()), Keep: keep}, impl.Deed{Kind: 5, Keep: keep}, impl.Deed{Kind: 5, Steps: 4, Keep: keep})
	}
	return append(list, deedsWithMore()...)
}

// deedsWithMore have one thing that their kind has not, also such that another kind may have.
func deedsWithMore() []impl.Deed {
	list := []impl.Deed{}
	for _, k := range deedKinds() {
		for _, text := range append(deedTexts()[1:], longTexts()...) {
			if !k.bytes {
				list = append(list, impl.Deed{Kind: k.kind, Bytes: text})
			}
		}
		for _, steps := range append(wrongDeedSteps(), 1, 2, 3, 4) {
			if !k.steps {
				list = append(list, impl.Deed{Kind: k.kind, Steps: steps})
			}
		}
		for _, keep := range append(wrongDeedKeeps(), 1, 2, 59999, 60000) {
			if !k.keep {
				list = append(list, impl.Deed{Kind: k.kind, Keep: keep})
			}
		}
	}
	return list
}

func TestP18Constants(t *testing.T) {
	for i, got := range []int{impl.DoSubmit, impl.DoSave, impl.DoCrash, impl.DoTorn, impl.DoTornSave, impl.DoOpen} {
		if got != i+1 {
			t.Errorf("kind %d is %d", i+1, got)
		}
	}
}

func TestP18DeedsThatAreOk(t *testing.T) {
	for _, d := range rightDeeds() {
		checkDeedOk(t, d, true)
	}
	for _, d := range wrongDeeds() {
		checkDeedOk(t, d, false)
	}
}

// Each length of bytes, each number of steps and each edge of what is kept, for each kind and such as are none.
func TestP18LimitsOfADeed(t *testing.T) {
	for kind := -2; kind < 10; kind++ {
		checkDeedOk(t, impl.Deed{Kind: kind}, 1 <= kind && kind <= 6)
		for n := 1; n < 260; n++ {
			checkDeedOk(t, impl.Deed{Kind: kind, Bytes: strings.Repeat("\x01", n)}, (kind == 1 || kind == 4) && n <= 200)
		}
		for steps := -300; steps < 300; steps++ {
			checkDeedOk(t, impl.Deed{Kind: kind, Steps: steps}, 1 <= kind && kind <= 6 && steps == 0 || kind == 5 && 0 <= steps && steps <= 4)
		}
		for keep := 1; keep < 70000; keep++ {
			if got := impl.DeedOk(impl.Deed{Kind: kind, Keep: keep}); got != (3 <= kind && kind <= 5 && keep <= 60000) {
				t.Fatalf("DeedOk of kind %d that keeps %d is %v", kind, keep, got)
			}
		}
		for keep := 1; keep < 300; keep++ {
			checkDeedOk(t, impl.Deed{Kind: kind, Keep: -keep}, false)
		}
	}
}

// All of it together, by the words.
func TestP18DeedsByTheWords(t *testing.T) {
	right := 0
	for _, kind := range append(wrongDeedKinds(), 1, 2, 3, 4, 5, 6) {
		for _, text := range append(deedTexts(), longTexts()[:4]...) {
			for _, steps := range append(wrongDeedSteps(), 0, 1, 2, 3, 4) {
				for _, keep := range append(wrongDeedKeeps(), 0, 1, 59999, 60000) {
					d := impl.Deed{Kind: kind, Bytes: text, Steps: steps, Keep: keep}
					checkDeedOk(t, d, deedRight(d))
					if deedRight(d) {
						right++
					}
				}
			}
		}
	}
	// A text for a submit, one thing to keep for a crash, and so on: 9, 1, 4, 9 by 4, 5 by 4, 1.
	if right != 71 {
		t.Error("right ones", right)
	}
}

func TestP18DoByHand(t *testing.T) {
	one, two := "\x03\x01\x01\x02\x07\x00\x0d\x00", "\x03\x01\x02\x01\x07\x00\x0e\x00"
	none := []byte{128, 128, 154, 166, 234, 175, 227, 1}
	done, known, bad := append([]byte{0}, none...), append([]byte{2}, none...), append([]byte{1}, none...)
	books, both := impl.Books{Accounts: chartOf(1, impl.Issuer)}, impl.Books{Accounts: chartOf(1, impl.Issuer, 2, impl.Holder)}
	e := impl.EngineNew(40)
	first := upEngine(diskOf(40, fileOf(0, one, "")), books, 0, 1)
	second := upEngine(diskOf(40, fileOf(0, one+two, "")), both, 0, 2)
	checkDo(t, e, impl.Deed{Kind: 1, Bytes: "\x01\x01\x02"}, enAnswer{first, done, impl.EnDone})
	checkDo(t, first, impl.Deed{Kind: 1, Bytes: "\x01\x02\x01"}, enAnswer{second, done, impl.EnDone})
	checkDo(t, second, impl.Deed{Kind: 1, Bytes: "\x01\x02\x01"}, enAnswer{second, known, impl.EnRefused})
	checkDo(t, second, impl.Deed{Kind: 1, Bytes: "\x01\x02"}, enAnswer{second, bad, impl.EnParse})
	checkDo(t, second, impl.Deed{Kind: 1}, enAnswer{second, bad, impl.EnParse})
	checkDo(t, tight(second), impl.Deed{Kind: 1, Bytes: "\x01\x03\x01"}, enAnswer{tight(second), nil, impl.EnFull})
	save := "\x09\x01\x01\x01\x02\x00\x00\x00\x00\x00\x0e\x00\x51\x00"
	saved := upEngine(diskOf(40, fileOf(21, save, "")), books, 1, 0)
	checkDo(t, first, impl.Deed{Kind: 2}, enAnswer{engine: saved})
	checkDo(t, tight(first), impl.Deed{Kind: 2}, enAnswer{tight(first), nil, impl.EnFull})
	checkDo(t, upEngine(diskOf(40, fileOf(3, "ab", "cde")), books, 3, 1), impl.Deed{Kind: 3, Keep: 2}, downOn(diskOf(40, fileOf(3, "abcd", ""))))
	checkDo(t, first, impl.Deed{Kind: 3}, downOn(first.Disk))
	checkDo(t, first, impl.Deed{Kind: 4, Bytes: "\x01\x02\x01", Keep: 3}, downOn(diskOf(40, fileOf(0, one+two[:3], ""))))
	checkDo(t, first, impl.Deed{Kind: 4, Bytes: "\x01\x02\x01", Keep: 60000}, downOn(second.Disk))
	checkDo(t, first, impl.Deed{Kind: 4, Bytes: "\x01\x02\x01"}, downOn(first.Disk))
	checkDo(t, first, impl.Deed{Kind: 4, Bytes: "\x01\x01\x02", Keep: 60000}, downOn(first.Disk))
	checkDo(t, first, impl.Deed{Kind: 5, Steps: 1, Keep: 3}, downOn(diskOf(40, fileOf(0, one, ""), fileOf(20, save[:3], ""))))
	checkDo(t, first, impl.Deed{Kind: 5, Steps: 3}, downOn(diskOf(40, fileOf(0, one, ""), fileOf(21, save, ""))))
	checkDo(t, first, impl.Deed{Kind: 5, Steps: 4}, downOn(saved.Disk))
	checkDo(t, first, impl.Deed{Kind: 5}, downOn(first.Disk))
	checkDo(t, first, impl.Deed{Kind: 6}, enAnswer{first, nil, impl.EnRefused})
	down := impl.Engine{Disk: first.Disk}
	checkDo(t, down, impl.Deed{Kind: 6}, enAnswer{engine: first})
	for kind := 1; kind < 6; kind++ {
		checkDo(t, down, impl.Deed{Kind: kind}, enAnswer{engine: down, code: impl.EnDown})
	}
	checkDoBad(t, first, impl.Deed{})
	checkDoBad(t, first, impl.Deed{Kind: 1, Bytes: "\x01\x02\x01", Keep: 1})
	checkDoBad(t, upEngine(diskOf(7, fileOf(0, one, "")), books, 0, 1), impl.Deed{Kind: 3})
}

// A deed that is not right comes ahead of all else, whatever the engine is.
func TestP18DoOfWrongDeeds(t *testing.T) {
	engines := slices.Concat(upEngines(), downEngines(), wrongEngines())
	for i, d := range wrongDeeds() {
		for j := i % 7; j < len(engines); j += 7 {
			checkDoBad(t, engines[j], d)
		}
		checkDoBad(t, impl.EngineNew(60000), d)
		checkDoBad(t, impl.Engine{}, d)
	}
}

func TestP18DoOfWrongEngines(t *testing.T) {
	deeds := rightDeeds()
	for i, e := range wrongEngines() {
		for j := i % 11; j < len(deeds); j += 11 {
			checkDoBad(t, e, deeds[j])
		}
		for _, d := range []impl.Deed{submitDeed(newAccount()), saveDeed(), crashDeed(0), tornDeed(newAccount(), 9), tornSaveDeed(4, 0), openDeed()} {
			checkDoBad(t, e, d)
		}
	}
}

// someDeeds are right deeds, with commands that most books do and such that they refuse.
func someDeeds() []impl.Deed {
	list := []impl.Deed{saveDeed(), openDeed(), crashDeed(0), crashDeed(3), crashDeed(60000)}
	inputs := []string{"", "\x63", string(bytesOf(accountCall(2, 1))), string(bytesOf(instrCall(900, impl.Cash))), string(newAccount()) + "\x00"}
	for _, c := range doneCalls() {
		inputs = append(inputs, string(bytesOf(c)))
	}
	for i, text := range append(inputs, deedTexts()...) {
		list = append(list, submitDeed([]byte(text)), tornDeed([]byte(text), []int{0, 5, 60000}[i%3]))
	}
	for steps := range 5 {
		list = append(list, tornSaveDeed(steps, 0), tornSaveDeed(steps, 11), tornSaveDeed(steps, 60000))
	}
	return list
}

// Each kind with each of the codes that its call tells, held against that call and against the words.
func TestP18DoIsItsCall(t *testing.T) {
	engines := []impl.Engine{}
	for _, e := range upEngines() {
		engines = append(engines, e, tight(e))
	}
	engines = slices.Concat(engines, downEngines(), wrongEngines()[:60])
	codes := map[int]map[int]int{}
	for i, e := range engines {
		for j, d := range someDeeds() {
			if (i+j)%3 > 0 {
				continue
			}
			checkDoByWords(t, e, d)
			got := doDeed(e, d)
			if codes[d.Kind] == nil {
				codes[d.Kind] = map[int]int{}
			}
			codes[d.Kind][got.code]++
			if d.Kind != impl.DoSubmit && len(got.told) > 0 {
				t.Errorf("%s of %s tells %v", deedText(d), engineText(e), got.told)
			}
		}
	}
	for kind, list := range map[int][]int{1: {0, 1, 2, 3, 4, 5}, 2: {0, 1, 2, 5}, 3: {0, 1, 2}, 4: {0, 1, 2}, 5: {0, 1, 2}, 6: {0, 1, 4}} {
		for _, code := range list {
			if codes[kind][code] < 10 {
				t.Error("too few", kind, code, codes[kind])
			}
		}
		if len(codes[kind]) != len(list) {
			t.Error("other codes", kind, codes[kind])
		}
	}
}

// What the books refuse is told with each of their codes; what they do is told with what it comes to.
func TestP18DoTellsTheReply(t *testing.T) {
	for i, c := range allRefused() {
		e := upEngine(diskOf(60000, fileOf(3, "s", "l")), c.given, i%20, i%7)
		checkDo(t, e, submitDeed(bytesOf(c.call)), enAnswer{e, replyBytes(c.code, 0), impl.EnRefused})
	}
	for i, c := range slices.Concat(doneCharts(), doneMoves(), doneCorps()) {
		b := bytesOf(c.call)
		e := upEngine(diskOf(60000), c.given, i%20, i%6)
		want := upEngine(diskOf(60000, fileOf(i%20, rowOf(string(b)), "")), c.want, i%20, i%6+1)
		checkDo(t, e, submitDeed(b), enAnswer{want, replyBytes(impl.BkDone, c.value), impl.EnDone})
		_, told, _ := impl.EngineDo(e, submitDeed(b))
		if r, ok := wantReplyRead([]byte(told)); !ok || r != (impl.Reply{Value: c.value}) || !bytes.Equal([]byte(told), replyBytes(0, c.value)) {
			t.Errorf("%v of %s tells %q", c.call, engineText(e), told)
		}
	}
}
