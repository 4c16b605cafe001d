package tests

import (
	"slices"
	"testing"

	"loop.example/g00110/impl"
)

// lastSave is the save that a disk is to have, if it is to have one.
type lastSave struct {
	save  impl.Save
	there bool
}

func (l lastSave) check(t *testing.T, d impl.Disk) {
	t.Helper()
	checkSaveLoad(t, d, l.save, l.there)
}

// stepsDone is a disk behind the first steps of a save, all of which are to be done.
func stepsDone(t *testing.T, d impl.Disk, s impl.Save, steps int) impl.Disk {
	t.Helper()
	for k := range steps {
		next, code := impl.SaveStep(d, s, k)
		if code != impl.DiskDone {
			t.Fatalf("step %d of %s to %s is %d", k, saveText(s), diskText(d), code)
		}
		d = next
	}
	return d
}

// checkBetween crashes a disk between each two steps of a save: the old one is there until the new one is moved, and then the new one.
func checkBetween(t *testing.T, d impl.Disk, old lastSave, s impl.Save, keeps []int) {
	t.Helper()
	for steps := range 5 {
		after := stepsDone(t, d, s, steps)
		want := old
		if steps > 2 {
			want = lastSave{s, true}
		}
		want.check(t, after)
		for _, keep := range keeps {
			crashed := impl.DiskCrash(after, keep)
			want.check(t, crashed)
			// What stands behind the old save is there as long as that is.
			if rest := wantCrash(withoutFiles(d, 20, 21), keep); steps < 4 && !sameDisk(withoutFiles(crashed, 20, 21), rest) {
				t.Errorf("behind %d steps of %s and a crash the disk is %s; want the segments of %s", steps, saveText(s), diskText(crashed), diskText(rest))
			}
		}
	}
	written, code := impl.SaveWrite(d, s)
	for _, keep := range keeps {
		checkSaveLoad(t, impl.DiskCrash(written, keep), s, code == impl.DiskDone)
	}
}

// allKeeps are all numbers of bytes that a crash may keep of a text, with a few on either side.
func allKeeps(text string) []int {
	keeps := []int{}
	for keep := -2; keep < len(text)+3; keep++ {
		keeps = append(keeps, keep)
	}
	return keeps
}

// aheadOfSave are disks without a save: with nothing, with segments, with what earlier crashes left of a new one.
func aheadOfSave(text string) []impl.Disk {
	half := len(text) / 2
	return []impl.Disk{
		diskOf(60000), diskOf(60000, segKinds()[2]...), diskOf(60000, segKinds()[3]...),
		diskOf(60000, fileOf(3, rowOf("a"), "b"), fileOf(20, text[:half], "")), diskOf(60000, fileOf(20, "", text[:half])), diskOf(60000, fileOf(20, text[:half], text[half:])),
		diskOf(60000, fileOf(19, "", rowOf("c")), fileOf(20, "", "")),
	}
}

func TestP16CrashBetweenStepsByHand(t *testing.T) {
	text := "\x07\x13\x00\x00\x00\x00\x00\x00\x1a\x00\xa1\x00"
	s, old := impl.Save{From: 19}, "\x07\x00\x00\x00\x00\x00\x00\x00\x07\x00\x1c\x00"
	seg, save := fileOf(4, "a", "bc"), fileOf(21, old, "")
	d := diskOf(60, seg, save)
	for keep, torn := range []string{"", "\x07", "\x07\x13", "\x07\x13\x00"} {
		safe := fileOf(4, "abc"[:1+min(keep, 2)], "")
		checkCrash(t, stepsDone(t, d, s, 0), keep, diskOf(60, safe, save))
		checkCrash(t, stepsDone(t, d, s, 1), keep, diskOf(60, safe, fileOf(20, torn, ""), save))
		checkCrash(t, stepsDone(t, d, s, 2), keep, diskOf(60, safe, fileOf(20, text, ""), save))
		checkCrash(t, stepsDone(t, d, s, 3), keep, diskOf(60, safe, fileOf(21, text, "")))
		checkCrash(t, stepsDone(t, d, s, 4), keep, diskOf(60, fileOf(21, text, "")))
	}
}

func TestP16CrashOverNone(t *testing.T) {
	for _, s := range fewSaves() {
		text := packedSave(t, s)
		for _, d := range aheadOfSave(text) {
			checkBetween(t, d, lastSave{}, s, allKeeps(text))
		}
	}
	for _, s := range someSaves() {
		for _, d := range aheadOfSave(packedSave(t, s)) {
			checkBetween(t, d, lastSave{}, s, keeps())
		}
	}
}

func TestP16CrashOverTheSaveThatWasThere(t *testing.T) {
	for i, old := range someSaves() {
		for j, s := range someSaves() {
			text := packedSave(t, s)
			tried, disks := keeps(), aheadOfSave(text)
			if i < 4 && j < 4 {
				tried = allKeeps(text)
			}
			// Of the greater ones a few will do.
			if i > 6 || j > 6 {
				disks = disks[2:4]
			}
			for _, ahead := range disks {
				// The old one was written and crashed by itself, and behind it new records came.
				written, _ := impl.SaveWrite(ahead, old)
				d := impl.DiskCrash(written, 0)
				checkBetween(t, d, lastSave{old, true}, s, tried)
				d.Files = append(slices.Clone(ahead.Files), fileOf(21, packedSave(t, old), ""))
				checkBetween(t, d, lastSave{old, true}, s, tried)
			}
		}
	}
}

// A save that has no room leaves the one that was there, whatever crashes.
func TestP16CrashBehindAFullDisk(t *testing.T) {
	for _, old := range someSaves() {
		for _, s := range someSaves() {
			ahead, text := packedSave(t, old), packedSave(t, s)
			d := diskOf(len(ahead)+len(text)-1, fileOf(20, "o", "ld"), fileOf(21, ahead, ""))
			for _, next := range []impl.Disk{d, diskOf(d.Room, d.Files[1:]...)} {
				stepped, stepCode := impl.SaveStep(next, s, 0)
				written, code := impl.SaveWrite(next, s)
				if stepCode != impl.DiskFull || code != impl.DiskFull {
					t.Errorf("%s to %s: %d, %d", saveText(s), diskText(next), stepCode, code)
				}
				for _, keep := range keeps() {
					checkSaveLoad(t, impl.DiskCrash(stepped, keep), old, true)
					checkSaveLoad(t, impl.DiskCrash(written, keep), old, true)
				}
			}
		}
	}
}

// savePlay is a disk that is saved in steps, crashes and begins anew, beside the save that it is to have.
type savePlay struct {
	disk  impl.Disk
	last  lastSave
	save  impl.Save
	step  int
	codes [4]int
}

// next does one more step of the save under way, or begins another one where there is none or no room.
func (p *savePlay) next(roll func(n int) int, saves []impl.Save) {
	if p.step == 4 {
		p.save, p.step = saves[roll(len(saves))], 0
	}
	d, code := impl.SaveStep(p.disk, p.save, p.step)
	p.codes[code]++
	if code != impl.DiskDone {
		p.step = 4
		return
	}
	if p.step == 2 {
		p.last = lastSave{p.save, true}
	}
	p.disk, p.step = d, p.step+1
}

func (p *savePlay) write(s impl.Save) {
	d, code := impl.SaveWrite(p.disk, s)
	p.codes[code]++
	p.disk, p.step = d, 4
	if code == impl.DiskDone {
		p.last = lastSave{s, true}
	}
}

// addRecord puts a record to a segment, which takes room from the saves.
func (p *savePlay) addRecord(roll func(n int) int) {
	text := string(drawnBytes(roll(1000), roll(30)))
	if roll(2) == 0 {
		p.disk, _ = impl.SegAdd(p.disk, roll(20), text)
	} else {
		p.disk, _ = impl.SegLate(p.disk, roll(20), text)
	}
}

// A walk by steps, whole saves, records and crashes, over what earlier crashes left: at each turn, and behind any crash, there is the last save that was moved.
func TestP16Walk(t *testing.T) {
	codes, saved := [4]int{}, 0
	for seed := range 60 {
		roll := dice(seed)
		p := &savePlay{disk: diskOf(100 + roll(700)), step: 4}
		for range 200 {
			before := p.last
			switch roll(10) {
			case 0:
				p.write(fewSaves()[roll(len(fewSaves()))])
			case 1:
				p.addRecord(roll)
			case 2:
				p.disk, p.step = impl.DiskCrash(p.disk, roll(300)-1), 4
			default:
				p.next(roll, fewSaves())
			}
			p.last.check(t, p.disk)
			for _, keep := range []int{-1, roll(20), roll(400), 60000} {
				p.last.check(t, impl.DiskCrash(p.disk, keep))
			}
			if p.last.there && !sameSave(p.last.save, before.save) {
				saved++
			}
		}
		for code, n := range p.codes {
			codes[code] += n
		}
	}
	if saved < 300 || codes[impl.DiskDone] < 3000 || codes[impl.DiskFull] < 100 || codes[impl.DiskBad]+codes[impl.DiskNone] > 0 {
		t.Error("the walk is too narrow", codes, saved)
	}
}
