package tests

import (
	"maps"
	"slices"
	"strings"
	"testing"

	"loop.example/g00110/impl"
)

// checkMended wants just these records of a segment, all of them safe, and nothing behind them.
func checkMended(t *testing.T, d impl.Disk, seg int, want ...string) {
	t.Helper()
	checkDisk(t, d, segMendCall(seg), withFile(d, fileOf(seg, rowOf(want...), "")), impl.DiskDone)
	once, _ := impl.SegMend(d, seg)
	checkSegRead(t, once, seg, want, len(rowOf(want...)))
	// A segment that is mended is as it was.
	checkDisk(t, once, segMendCall(seg), once, impl.DiskDone)
}

func TestP15MendOfEachKind(t *testing.T) {
	want := map[int][]string{
		0: {"zero"}, 1: {"ab", "c"}, 3: {"ab", "c"}, 4: {"ab", "c"}, 5: {"ab", "c", "ab"}, 6: {}, 7: {}, 8: sixRecords(), 19: {"ab", "c", "last"},
	}
	for seg := range 20 {
		if records, there := want[seg]; there {
			checkMended(t, ableDisk(), seg, records...)
		} else {
			checkDisk(t, ableDisk(), segMendCall(seg), ableDisk(), impl.DiskNone)
		}
	}
}

func TestP15MendByHand(t *testing.T) {
	row := "\x02ab\xc5\x00\x27\x01" + "\x01c\x64\x00\x64\x00"
	d := diskOf(50, fileOf(2, row[:9], row[9:12]), fileOf(9, row+"?", ""), fileOf(20, "\x01", "\x01"))
	checkDisk(t, d, segMendCall(2), diskOf(50, fileOf(2, row[:7], ""), fileOf(9, row+"?", ""), fileOf(20, "\x01", "\x01")), impl.DiskDone)
	checkDisk(t, d, segMendCall(9), diskOf(50, fileOf(2, row[:9], row[9:12]), fileOf(9, row, ""), fileOf(20, "\x01", "\x01")), impl.DiskDone)
	checkDisk(t, d, segMendCall(3), d, impl.DiskNone)
	checkDiskBad(t, d, segMendCall(20))
}

func TestP15MendOfWhatIsNoRecord(t *testing.T) {
	for _, text := range []string{"", "x", "\x00", "\x00\x00\x00\x00", "no record", "\xff\xff\xff\xff\xff\xff\xff\xff\xff\xff", strings.Repeat("\x01", 500), string(wantSeal(drawnBytes(1, 9001)))} {
		half := len(text) / 2
		for _, f := range []impl.File{fileOf(0, text, ""), fileOf(10, "", text), fileOf(19, text[:half], text[half:])} {
			checkMended(t, diskOf(10000, f, fileOf(21, "a", "b")), f.Name)
		}
	}
}

// Of a torn segment the records ahead of the torn one are left, wherever it is torn, and wherever what is late begins.
func TestP15MendOfATornSegment(t *testing.T) {
	for _, records := range manyRows() {
		row := rowOf(records...)
		for n := range len(row) {
			whole := 0
			for len(rowOf(records[:whole+1]...)) <= n {
				whole++
			}
			for _, safe := range []int{0, n / 2, n} {
				checkMended(t, diskOf(2000, fileOf(4, row[:safe], row[safe:n]), fileOf(5, "a", "b")), 4, records[:whole]...)
			}
		}
		checkMended(t, diskOf(60000, fileOf(4, row, rowOf("seventh"))), 4, records...)
		checkMended(t, diskOf(60000, fileOf(4, row+"torn", "")), 4, records...)
	}
}

func TestP15MendRefused(t *testing.T) {
	for _, seg := range noSegs() {
		for _, d := range []impl.Disk{{}, ableDisk(), diskOf(60000), fullDisk()} {
			checkDiskBad(t, d, segMendCall(seg))
		}
	}
	for seg := range 20 {
		for _, d := range []impl.Disk{{}, diskOf(60000), diskOf(9, fileOf(20, "a", ""), fileOf(21, "", "b"))} {
			checkDisk(t, d, segMendCall(seg), d, impl.DiskNone)
		}
		for _, d := range slices.Concat(wrongSegDisks(), wrongDisks()) {
			checkDiskBad(t, d, segMendCall(seg))
		}
	}
}

func TestP15MendByTheWords(t *testing.T) {
	for _, d := range slices.Concat(rightDisks(), wrongDisks(), wrongSegDisks(), []impl.Disk{ableDisk()}) {
		for seg := -2; seg <= 23; seg++ {
			checkDiskByWords(t, d, segMendCall(seg))
		}
	}
}

// checkPromise puts a record to a segment that was mended and crashes it: an added one is there, a late one whole or not at all.
func checkPromise(t *testing.T, d impl.Disk, seg int, record string, keep int) {
	t.Helper()
	mended, _ := impl.SegMend(d, seg)
	ahead, size := wantSegRead(d, seg)
	// One more than a segment has is written, but not read.
	if len(ahead) == 6 {
		return
	}
	all, takes := append(slices.Clone(ahead), record), len(rowOf(record))
	added, _ := impl.SegAdd(mended, seg, record)
	checkSegRead(t, impl.DiskCrash(added, keep), seg, all, size+takes)
	late, _ := impl.SegLate(mended, seg, record)
	crashed := impl.DiskCrash(late, keep)
	if keep >= takes {
		checkSegRead(t, crashed, seg, all, size+takes)
	} else {
		checkSegRead(t, crashed, seg, ahead, size)
	}
	// Mended again, one more may be added.
	again, _ := impl.SegMend(crashed, seg)
	told, size := wantSegRead(crashed, seg)
	if len(told) < 6 {
		again, _ = impl.SegAdd(again, seg, "again")
		checkSegRead(t, impl.DiskCrash(again, keep), seg, append(told, "again"), size+len(rowOf("again")))
	}
}

// At each place at which a segment may be torn, and for each number of bytes that a crash may keep.
func TestP15AddedToAMendedSegment(t *testing.T) {
	for _, records := range [][]string{sixRecords(), {"ab", "ab"}, {"", "", ""}, {"", "\x00", "\x00\x00\x00"}} {
		row := rowOf(records...)
		for n := range len(row) + 1 {
			for _, record := range []string{"", "new", "\x00\x00"} {
				for keep := -1; keep <= len(rowOf(record))+2; keep++ {
					checkPromise(t, diskOf(500, fileOf(19, row[:n/2], row[n/2:n]), fileOf(20, "s", "l")), 19, record, keep)
				}
			}
		}
	}
	for _, d := range []impl.Disk{ableDisk(), byteDisk(), someDisk()} {
		d.Room = 50000
		for _, f := range d.Files {
			for _, record := range []string{"", allBytes(), string(drawnBytes(1, 9000))} {
				for _, keep := range []int{0, 1, 2, 4, 5, 100, 257, 261, 262, 9005, 9006, 60000} {
					if segRight(f.Name) {
						checkPromise(t, d, f.Name, record, keep)
					}
				}
			}
		}
	}
}

// Several late records, one behind the other: each is there whole or not at all, and none without those ahead of it.
func TestP15LateRecordsBehindACrash(t *testing.T) {
	for _, records := range manyRows() {
		for safe := range 6 {
			d := diskOf(3000)
			for _, record := range records[:safe] {
				d, _ = impl.SegAdd(d, 8, record)
			}
			for _, record := range records[safe:] {
				d, _ = impl.SegLate(d, 8, record)
			}
			for keep := -1; keep <= len(rowOf(records...))+1; keep++ {
				told, size := impl.SegRead(impl.DiskCrash(d, keep), 8)
				if len(told) < safe || !slices.Equal(told, records[:len(told)]) || size != len(rowOf(told...)) {
					t.Errorf("%d safe ones of %q and %d bytes: %q, %d", safe, records, keep, told, size)
				}
				if next := len(told); next < 6 && len(rowOf(records[safe:next+1]...)) <= keep {
					t.Errorf("%d safe ones of %q and %d bytes: just %q", safe, records, keep, told)
				}
			}
		}
	}
}

// keptSeg is a segment beside its records: of all that are written the first ones are safe.
type keptSeg struct {
	records []string
	safe    int
}

// told are the records that are read of it.
func (k *keptSeg) told() []string { return k.records[:min(len(k.records), 6)] }

func (k *keptSeg) mend() {
	k.records = k.told()
	k.safe = len(k.records)
}

// crash leaves as many late records as are kept whole.
func (k *keptSeg) crash(keep int) {
	for k.safe < len(k.records) && keep >= len(rowOf(k.records[k.safe])) {
		keep -= len(rowOf(k.records[k.safe]))
		k.safe++
	}
	k.records = k.records[:k.safe]
}

func (k *keptSeg) do(c segCall) {
	switch c.what {
	case "mend":
		k.mend()
	case "late":
		k.records = append(k.records, c.text)
	case "add":
		k.records = append(k.records, c.text)
		k.safe = len(k.records)
	}
}

// diceSegCall is an add, a late one or a mending of a few segments; some of them are refused.
func diceSegCall(roll func(n int) int) segCall {
	seg := []int{0, 1, 2, 19, 19, 0, 7, 20, -1}[roll(9)]
	text := string(drawnBytes(roll(1000), roll(20)))
	switch roll(7) {
	case 0, 1, 2:
		return segAddCall(seg, text)
	case 3, 4, 5:
		return segLateCall(seg, text)
	}
	return segMendCall(seg)
}

// crashAndMend crashes a disk and mends all its segments; it tells how many records were lost, too.
func crashAndMend(d impl.Disk, kept map[int]*keptSeg, keep int) (impl.Disk, int) {
	d, lost := impl.DiskCrash(d, keep), 0
	for seg, k := range kept {
		before := len(k.records)
		k.crash(keep)
		lost += before - len(k.records)
		k.mend()
		d, _ = impl.SegMend(d, seg)
	}
	return d, lost
}

// A walk by all calls and crashes, behind each of which all segments are mended, beside the records that must be there.
func TestP15Walk(t *testing.T) {
	codes, lost := [4]int{}, 0
	for seed := range 60 {
		roll := dice(seed)
		d, kept := diskOf(100+roll(900)), map[int]*keptSeg{}
		for range 150 {
			c := diceSegCall(roll)
			checkDiskByWords(t, d, c)
			next, code := c.do(d)
			codes[code]++
			if code == impl.DiskDone && kept[c.seg] == nil {
				kept[c.seg] = &keptSeg{}
			}
			if code == impl.DiskDone {
				d = next
				kept[c.seg].do(c)
			}
			if roll(8) == 0 {
				crashed, gone := crashAndMend(d, kept, roll(30)-1)
				d, lost = crashed, lost+gone
			}
			if roll(30) == 0 {
				left := roll(20)
				d = impl.SegsClear(d, []int{left})
				maps.DeleteFunc(kept, func(seg int, _ *keptSeg) bool { return seg != left })
			}
			for seg, k := range kept {
				checkSegRead(t, d, seg, k.told(), len(rowOf(k.told()...)))
			}
		}
	}
	if slices.Min(codes[:]) < 50 || lost < 200 {
		t.Error("the walk is too narrow", codes, lost)
	}
}
