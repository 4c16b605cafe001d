package tests

import (
	"fmt"
	"slices"
	"strings"
	"testing"

	"loop.example/g00110/impl"
)

// saveWriteCall is all steps of a save.
type saveWriteCall struct{ save impl.Save }

func (c saveWriteCall) String() string { return fmt.Sprintf("write of %s", saveText(c.save)) }

func (c saveWriteCall) do(d impl.Disk) (impl.Disk, int) { return impl.SaveWrite(d, c.save) }

// want says at once what the four steps come to: a disk of that save alone.
func (c saveWriteCall) want(d impl.Disk) (impl.Disk, int) {
	text, ok := wantSavePack(c.save)
	if !ok || !diskRight(d) {
		return impl.Disk{}, impl.DiskBad
	}
	// The segments and the old save are there until the new one is whole, so their room is not free.
	if len(rowOfFiles(withoutFiles(d, 20)))+len(text) > d.Room {
		return d, impl.DiskFull
	}
	return diskOf(d.Room, fileOf(21, text, "")), impl.DiskDone
}

// checkWritten also wants the steps one behind the other to come to the same, and the save to be read.
func checkWritten(t *testing.T, d impl.Disk, s impl.Save) int {
	t.Helper()
	checkDiskByWords(t, d, saveWriteCall{s})
	next, code := impl.SaveWrite(d, s)
	inTurn, stepCode := d, impl.DiskDone
	for k := 0; k < 4 && stepCode == impl.DiskDone; k++ {
		inTurn, stepCode = impl.SaveStep(inTurn, s, k)
	}
	if code != stepCode || code == impl.DiskDone && !sameDisk(next, inTurn) {
		t.Errorf("write of %s to %s is %s, %d; in steps %s, %d", saveText(s), diskText(d), diskText(next), code, diskText(inTurn), stepCode)
	}
	if code == impl.DiskDone {
		checkSaveLoad(t, next, s, true)
	}
	return code
}

func TestP16WriteByHand(t *testing.T) {
	text := "\x07\x00\x00\x00\x00\x00\x00\x00\x07\x00\x1c\x00"
	done := diskOf(40, fileOf(21, text, ""))
	for _, d := range []impl.Disk{
		diskOf(40), diskOf(40, fileOf(0, "a", "b")), diskOf(40, fileOf(20, "c", "d")), diskOf(40, fileOf(21, "e", "f")), diskOf(40, fileOf(21, "", "")), done,
		diskOf(40, fileOf(0, "", "a"), fileOf(7, "b", ""), fileOf(19, "", ""), fileOf(20, "c", "d"), fileOf(21, "e", "f")),
	} {
		checkDisk(t, d, saveWriteCall{impl.Save{}}, done, impl.DiskDone)
		checkWritten(t, d, impl.Save{})
	}
	checkDisk(t, diskOf(12), saveWriteCall{impl.Save{}}, diskOf(12, fileOf(21, text, "")), impl.DiskDone)
	checkDisk(t, diskOf(11), saveWriteCall{impl.Save{}}, diskOf(11), impl.DiskFull)
	checkDiskBad(t, diskOf(40), saveWriteCall{impl.Save{From: 20}})
	checkDiskBad(t, diskOf(60001), saveWriteCall{impl.Save{}})
}

func TestP16WriteOfManySaves(t *testing.T) {
	codes := [4]int{}
	for _, s := range someSaves() {
		for _, d := range slices.Concat(saveDisks(), rightDisks(), []impl.Disk{ableDisk(), diskOf(60000, ableDisk().Files...)}) {
			codes[checkWritten(t, d, s)]++
		}
	}
	if codes[impl.DiskDone] < 100 || codes[impl.DiskFull] < 100 || codes[impl.DiskBad]+codes[impl.DiskNone] > 0 {
		t.Error("the writes are too much alike", codes)
	}
}

// A save over each other one, whatever is greater.
func TestP16WriteOverEachOther(t *testing.T) {
	for _, first := range someSaves() {
		for _, second := range someSaves() {
			d, _ := impl.SaveWrite(diskOf(20000, fileOf(0, "a", "")), first)
			checkWritten(t, d, second)
			checkDisk(t, d, saveWriteCall{second}, diskOf(20000, fileOf(21, packedSave(t, second), "")), impl.DiskDone)
			// Beside the old one there must be room for the new one.
			ahead, behind := len(packedSave(t, first)), len(packedSave(t, second))
			just, less := diskOf(ahead+behind, d.Files...), diskOf(ahead+behind-1, d.Files...)
			checkDisk(t, just, saveWriteCall{second}, diskOf(ahead+behind, fileOf(21, packedSave(t, second), "")), impl.DiskDone)
			checkDisk(t, less, saveWriteCall{second}, less, impl.DiskFull)
			checkSaveLoad(t, less, first, true)
		}
	}
}

// What is dropped ahead of it makes room: of a new save that was left just as much, of segments and the old save none.
func TestP16WriteRoom(t *testing.T) {
	for _, s := range someSaves() {
		text := packedSave(t, s)
		left := fileOf(20, text[:5], text[5:])
		for _, rest := range [][]impl.File{{}, {fileOf(3, "ab", "c")}, {fileOf(0, "", "d"), fileOf(19, "e", "")}} {
			for _, save := range fileKinds(21) {
				beside := slices.Concat(rest, save)
				used := len(rowOfFiles(diskOf(0, beside...)))
				room := used + len(text)
				// The room is full, and there is none but that of the new save that was left.
				checkDisk(t, withFile(diskOf(room, beside...), left), saveWriteCall{s}, diskOf(room, fileOf(21, text, "")), impl.DiskDone)
				checkDisk(t, diskOf(room, beside...), saveWriteCall{s}, diskOf(room, fileOf(21, text, "")), impl.DiskDone)
				for _, less := range []impl.Disk{diskOf(room-1, beside...), withFile(diskOf(room-1, beside...), fileOf(20, text[:4], text[5:])), withFile(diskOf(room-1, beside...), fileOf(20, "", ""))} {
					checkDisk(t, less, saveWriteCall{s}, less, impl.DiskFull)
				}
			}
		}
		for name := range 22 {
			d := diskOf(60000, fileOf(name, strings.Repeat("x", 30000), strings.Repeat("y", 30000-len(text)+1)))
			if name != 20 {
				checkDisk(t, d, saveWriteCall{s}, d, impl.DiskFull)
			} else {
				checkDisk(t, d, saveWriteCall{s}, diskOf(60000, fileOf(21, text, "")), impl.DiskDone)
			}
		}
		checkDisk(t, impl.Disk{}, saveWriteCall{s}, impl.Disk{}, impl.DiskFull)
	}
}

// A write that is refused leaves each file as it was, the new save that was left, too.
func TestP16WriteFull(t *testing.T) {
	for _, s := range someSaves() {
		for _, d := range []impl.Disk{fullDisk(), someDisk(), diskOf(11, fileOf(20, "old", "er"), fileOf(21, "a", "")), diskOf(0, fileOf(20, "", ""), fileOf(21, "", ""))} {
			checkDisk(t, d, saveWriteCall{s}, d, impl.DiskFull)
		}
	}
}

// DiskBad comes ahead of DiskFull, with nothing beside it.
func TestP16WriteBadComesFirst(t *testing.T) {
	for _, s := range wrongSaves() {
		for _, d := range []impl.Disk{{}, diskOf(5), diskOf(60000), fullDisk(), ableDisk()} {
			checkDiskBad(t, d, saveWriteCall{s})
		}
	}
	for _, d := range slices.Concat(wrongDisks(), wrongSegDisks(), badSaveDisks("x")) {
		for _, s := range append(someSaves(), wrongSaves()[:6]...) {
			checkDiskBad(t, d, saveWriteCall{s})
		}
	}
}
