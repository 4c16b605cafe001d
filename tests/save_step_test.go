package tests

import (
	"fmt"
	"math"
	"slices"
	"strings"
	"testing"

	"loop.example/g00110/impl"
)

// saveStepCall is one step of a save, by its number.
type saveStepCall struct {
	save impl.Save
	k    int
}

func (c saveStepCall) String() string { return fmt.Sprintf("step %d of %s", c.k, saveText(c.save)) }

func (c saveStepCall) do(d impl.Disk) (impl.Disk, int) { return impl.SaveStep(d, c.save, c.k) }

func (c saveStepCall) want(d impl.Disk) (impl.Disk, int) {
	text, ok := wantSavePack(c.save)
	if !ok || c.k < 0 || c.k > 3 || !diskRight(d) {
		return impl.Disk{}, impl.DiskBad
	}
	switch c.k {
	case 0:
		if len(rowOfFiles(withoutFiles(d, 20)))+len(text) > d.Room {
			return d, impl.DiskFull
		}
		return withFile(d, fileOf(20, "", text)), impl.DiskDone
	case 1:
		return syncCall(20).want(d)
	case 2:
		return fileMoveCall(20, 21).want(d)
	}
	return wantSegsClear(d, nil), impl.DiskDone
}

func withoutFiles(d impl.Disk, names ...int) impl.Disk {
	return diskOf(d.Room, slices.DeleteFunc(slices.Clone(d.Files), func(f impl.File) bool { return slices.Contains(names, f.Name) })...)
}

// fileKinds are files of a name with nothing, with what is safe, with what is late and with both; and none at all.
func fileKinds(name int) [][]impl.File {
	return [][]impl.File{{}, {fileOf(name, "", "")}, {fileOf(name, "old", "")}, {fileOf(name, "", "older")}, {fileOf(name, "very", " old")}}
}

// segKinds are no segments, some, and all of them.
func segKinds() [][]impl.File {
	return [][]impl.File{{}, {fileOf(3, rowOf("a"), "b")}, {fileOf(0, "", ""), fileOf(7, "", rowOf("c")), fileOf(19, "d", "")}, fullDisk().Files[:20]}
}

// saveDisks have each kind of segments, of a new save and of an old one; of room there is a little, and much.
func saveDisks() []impl.Disk {
	list := []impl.Disk{}
	for _, segs := range segKinds() {
		for _, fresh := range fileKinds(20) {
			for _, save := range fileKinds(21) {
				d := diskOf(60000, slices.Concat(segs, fresh, save)...)
				used := len(rowOfFiles(d))
				list = append(list, d, diskOf(used, d.Files...), diskOf(used+11, d.Files...), diskOf(used+100, d.Files...))
			}
		}
	}
	return list
}

func TestP16StepsByHand(t *testing.T) {
	s, text := impl.Save{}, "\x07\x00\x00\x00\x00\x00\x00\x00\x07\x00\x1c\x00"
	seg, last, save := fileOf(0, "a", "bc"), fileOf(19, "", "d"), fileOf(21, "sa", "ve")
	d := diskOf(30, seg, last, fileOf(20, "old", "er"), save)
	written := diskOf(30, seg, last, fileOf(20, "", text), save)
	checkDisk(t, d, saveStepCall{s, 0}, written, impl.DiskDone)
	synced := diskOf(30, seg, last, fileOf(20, text, ""), save)
	checkDisk(t, written, saveStepCall{s, 1}, synced, impl.DiskDone)
	moved := diskOf(30, seg, last, fileOf(21, text, ""))
	checkDisk(t, synced, saveStepCall{s, 2}, moved, impl.DiskDone)
	checkDisk(t, moved, saveStepCall{s, 3}, diskOf(30, fileOf(21, text, "")), impl.DiskDone)
	// Without a new save, without an old one, without segments.
	checkDisk(t, diskOf(12), saveStepCall{s, 0}, diskOf(12, fileOf(20, "", text)), impl.DiskDone)
	checkDisk(t, diskOf(30, seg), saveStepCall{s, 0}, diskOf(30, seg, fileOf(20, "", text)), impl.DiskDone)
	checkDisk(t, diskOf(12), saveStepCall{s, 1}, diskOf(12), impl.DiskNone)
	checkDisk(t, diskOf(30, seg, save), saveStepCall{s, 1}, diskOf(30, seg, save), impl.DiskNone)
	checkDisk(t, diskOf(12), saveStepCall{s, 2}, diskOf(12), impl.DiskNone)
	checkDisk(t, diskOf(30, seg, save), saveStepCall{s, 2}, diskOf(30, seg, save), impl.DiskNone)
	checkDisk(t, diskOf(30, seg, fileOf(20, text, "")), saveStepCall{s, 2}, diskOf(30, seg, fileOf(21, text, "")), impl.DiskDone)
	checkDisk(t, diskOf(30, save), saveStepCall{s, 3}, diskOf(30, save), impl.DiskDone)
	checkDisk(t, impl.Disk{}, saveStepCall{s, 3}, impl.Disk{}, impl.DiskDone)
}

// Out of turn a step does just what it does: what is synced and moved may be anything.
func TestP16StepsOutOfTurn(t *testing.T) {
	s, text := impl.Save{From: 19}, packedSave(t, impl.Save{From: 19})
	seg, save := fileOf(4, "a", "b"), fileOf(21, "sa", "ve")
	d := diskOf(60, seg, fileOf(20, "old", "er"), save)
	checkDisk(t, d, saveStepCall{s, 1}, diskOf(60, seg, fileOf(20, "older", ""), save), impl.DiskDone)
	checkDisk(t, d, saveStepCall{s, 2}, diskOf(60, seg, fileOf(21, "old", "er")), impl.DiskDone)
	checkDisk(t, d, saveStepCall{s, 3}, diskOf(60, fileOf(20, "old", "er"), save), impl.DiskDone)
	// Moved without a sync it is late still, and a crash tears it.
	late := diskOf(60, seg, fileOf(21, "", text))
	checkDisk(t, diskOf(60, seg, fileOf(20, "", text), save), saveStepCall{s, 2}, late, impl.DiskDone)
	checkSaveLoad(t, late, s, true)
	checkNoSave(t, impl.DiskCrash(late, 11))
	// Done once more behind all four, a new one is written beside the save.
	done := diskOf(60, fileOf(21, text, ""))
	checkDisk(t, done, saveStepCall{impl.Save{}, 0}, diskOf(60, fileOf(20, "", packedSave(t, impl.Save{})), fileOf(21, text, "")), impl.DiskDone)
	checkDisk(t, done, saveStepCall{s, 1}, done, impl.DiskNone)
	checkDisk(t, done, saveStepCall{s, 2}, done, impl.DiskNone)
	checkDisk(t, done, saveStepCall{s, 3}, done, impl.DiskDone)
}

// Each two and three steps of two saves one behind the other.
func TestP16StepsByTheWords(t *testing.T) {
	codes := [4]int{}
	steps := []saveStepCall{}
	for k := range 4 {
		steps = append(steps, saveStepCall{impl.Save{}, k}, saveStepCall{saveOf(19, impl.Books{Accounts: chartOf(1, impl.Issuer)}), k})
	}
	for _, d := range saveDisks() {
		for _, first := range steps {
			checkDiskByWords(t, d, first)
			next, code := first.do(d)
			codes[code]++
			for _, second := range steps {
				checkDiskByWords(t, next, second)
			}
		}
	}
	for _, first := range steps {
		for _, second := range steps {
			for _, third := range steps {
				d, _ := first.do(diskOf(60, fileOf(2, "a", "b"), fileOf(21, "c", "")))
				d, _ = second.do(d)
				checkDiskByWords(t, d, third)
			}
		}
	}
	if codes[impl.DiskDone] < 100 || codes[impl.DiskNone] < 100 || codes[impl.DiskFull] < 100 {
		t.Error("the steps are too much alike", codes)
	}
}

func TestP16StepsOfManySaves(t *testing.T) {
	for _, s := range someSaves() {
		for _, d := range slices.Concat(rightDisks(), []impl.Disk{ableDisk(), diskOf(60000, ableDisk().Files...), diskOf(60000, fullDisk().Files...)}) {
			next := d
			for k := range 4 {
				checkDiskByWords(t, d, saveStepCall{s, k})
				checkDiskByWords(t, next, saveStepCall{s, k})
				next, _ = impl.SaveStep(next, s, k)
			}
		}
	}
}

// Just as much room as the text takes, once that of the old one is free, and one byte less.
func TestP16StepRoom(t *testing.T) {
	for _, s := range []impl.Save{{}, saveOf(19, smallBooks()), saveOf(1, mostBooks())} {
		text := packedSave(t, s)
		same, longer := strings.Repeat("o", len(text)), strings.Repeat("o", len(text)+7)
		greater := [][]impl.File{{fileOf(20, same, "")}, {fileOf(20, "", same)}, {fileOf(20, longer, "")}, {fileOf(20, longer[:9], longer[9:])}}
		for _, segs := range segKinds() {
			for _, save := range fileKinds(21) {
				rest := slices.Concat(segs, save)
				used := len(rowOfFiles(diskOf(0, rest...)))
				for _, old := range append(fileKinds(20), greater...) {
					files := slices.Concat(segs, old, save)
					for _, more := range []int{0, 1, 50} {
						room := max(used+len(text), len(rowOfFiles(diskOf(0, files...)))) + more
						want := withFile(diskOf(room, rest...), fileOf(20, "", text))
						checkDisk(t, diskOf(room, files...), saveStepCall{s, 0}, want, impl.DiskDone)
					}
				}
				// An old one that is smaller than the text fits beside the rest, where the text does not.
				for _, old := range fileKinds(20) {
					less := diskOf(used+len(text)-1, slices.Concat(segs, old, save)...)
					checkDisk(t, less, saveStepCall{s, 0}, less, impl.DiskFull)
				}
			}
		}
	}
}

// What has no room drops nothing: the new save that was there is there still, with what is safe and what is late of it.
func TestP16StepFull(t *testing.T) {
	for _, s := range someSaves() {
		for _, old := range fileKinds(20) {
			d := diskOf(11, slices.Concat([]impl.File{fileOf(5, "", "e")}, old)...)
			checkDisk(t, d, saveStepCall{s, 0}, d, impl.DiskFull)
			next, _ := impl.SaveStep(d, s, 0)
			for _, f := range old {
				checkDiskRead(t, next, 20, f.Safe+f.Late, true)
			}
		}
		// The room of other files is not free, least of all that of the save that is there.
		for name := range 22 {
			if d := diskOf(60000, fileOf(name, strings.Repeat("x", 60000-5), "")); name != 20 {
				checkDisk(t, d, saveStepCall{s, 0}, d, impl.DiskFull)
			} else {
				checkDisk(t, d, saveStepCall{s, 0}, diskOf(60000, fileOf(20, "", packedSave(t, s))), impl.DiskDone)
			}
		}
		checkDisk(t, impl.Disk{}, saveStepCall{s, 0}, impl.Disk{}, impl.DiskFull)
	}
}

// Each step leaves alone what it is not about, with what is safe and what is late.
func TestP16StepsLeaveOtherFiles(t *testing.T) {
	all := diskOf(60000)
	for name := range 22 {
		all.Files = append(all.Files, fileOf(name, strings.Repeat("s", name), rowOf(strings.Repeat("l", 30-name))))
	}
	s, segs, fresh, save := saveOf(4, smallBooks()), all.Files[:20], all.Files[20], all.Files[21]
	text := packedSave(t, s)
	checkDisk(t, all, saveStepCall{s, 0}, diskOf(60000, append(slices.Clone(segs), fileOf(20, "", text), save)...), impl.DiskDone)
	checkDisk(t, all, saveStepCall{s, 1}, diskOf(60000, append(slices.Clone(segs), fileOf(20, fresh.Safe+fresh.Late, ""), save)...), impl.DiskDone)
	checkDisk(t, all, saveStepCall{s, 2}, diskOf(60000, append(slices.Clone(segs), fileOf(21, fresh.Safe, fresh.Late))...), impl.DiskDone)
	checkDisk(t, all, saveStepCall{s, 3}, diskOf(60000, fresh, save), impl.DiskDone)
	for name := range 22 {
		gone := withoutFiles(all, name)
		for k := range 4 {
			checkDiskByWords(t, gone, saveStepCall{s, k})
		}
	}
}

func noSteps() []int {
	return []int{math.MinInt, math.MinInt + 3, -4, -2, -1, 4, 5, 8, 1 << 32, 1<<32 + 1, math.MaxInt - 1, math.MaxInt}
}

// DiskBad comes ahead of all, also where there is nothing to sync and to move, and no room.
func TestP16StepBadComesFirst(t *testing.T) {
	disks := []impl.Disk{{}, diskOf(5), diskOf(60000), someDisk(), fullDisk(), ableDisk(), diskOf(60000, fullDisk().Files...)}
	for _, s := range append(someSaves(), wrongSaves()...) {
		for _, k := range noSteps() {
			for _, d := range disks {
				checkDiskBad(t, d, saveStepCall{s, k})
			}
		}
	}
	for _, s := range wrongSaves() {
		for _, d := range disks {
			for k := range 4 {
				checkDiskBad(t, d, saveStepCall{s, k})
			}
		}
	}
	for _, d := range slices.Concat(wrongDisks(), wrongSegDisks(), badSaveDisks("x")) {
		for _, s := range []impl.Save{{}, saveOf(19, smallBooks()), {From: 20}, wrongSaves()[30]} {
			for k := -1; k <= 4; k++ {
				checkDiskBad(t, d, saveStepCall{s, k})
			}
		}
	}
}
