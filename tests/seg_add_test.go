package tests

import (
	"fmt"
	"math"
	"slices"
	"strings"
	"testing"

	"loop.example/g00110/impl"
)

// segCall is one of the calls that turn a segment; of add and late it has a text.
type segCall struct {
	what string
	seg  int
	text string
}

func segAddCall(seg int, text string) segCall  { return segCall{"add", seg, text} }
func segLateCall(seg int, text string) segCall { return segCall{"late", seg, text} }
func segMendCall(seg int) segCall              { return segCall{what: "mend", seg: seg} }

// bothCalls add the same text to a segment, once safe and once late.
func bothCalls(seg int, text string) []segCall {
	return []segCall{segAddCall(seg, text), segLateCall(seg, text)}
}

func (c segCall) String() string { return fmt.Sprintf("%s %d, %s", c.what, c.seg, short(c.text)) }

func (c segCall) do(d impl.Disk) (impl.Disk, int) {
	switch c.what {
	case "add":
		return impl.SegAdd(d, c.seg, c.text)
	case "late":
		return impl.SegLate(d, c.seg, c.text)
	}
	return impl.SegMend(d, c.seg)
}

func (c segCall) want(d impl.Disk) (impl.Disk, int) {
	if !segRight(c.seg) || len(c.text) > 9000 {
		return impl.Disk{}, impl.DiskBad
	}
	if c.what == "mend" {
		_, size := wantSegRead(d, c.seg)
		return cutCall(c.seg, size).want(d)
	}
	next, code := appendCall(c.seg, rowOf(c.text)).want(d)
	if c.what == "late" || code != impl.DiskDone {
		return next, code
	}
	return syncCall(c.seg).want(next)
}

// withFile is a disk with another file, in the place of the one of that name, if there is one.
func withFile(d impl.Disk, f impl.File) impl.Disk {
	files := slices.DeleteFunc(slices.Clone(d.Files), func(g impl.File) bool { return g.Name == f.Name })
	files = append(files, f)
	slices.SortFunc(files, func(a impl.File, b impl.File) int { return a.Name - b.Name })
	return diskOf(d.Room, files...)
}

// ableRows are, of each segment that ableDisk has, what is safe and what is late.
func ableRows() map[int][2]string {
	rows := map[int][2]string{}
	for _, f := range ableDisk().Files {
		if segRight(f.Name) {
			rows[f.Name] = [2]string{f.Safe, f.Late}
		}
	}
	return rows
}

func TestP15AddByHand(t *testing.T) {
	ab := "\x02ab\xc5\x00\x27\x01"
	checkDisk(t, diskOf(7), segAddCall(3, "ab"), diskOf(7, fileOf(3, ab, "")), impl.DiskDone)
	checkDisk(t, diskOf(7), segLateCall(3, "ab"), diskOf(7, fileOf(3, "", ab)), impl.DiskDone)
	checkDisk(t, diskOf(5), segAddCall(19, ""), diskOf(5, fileOf(19, "\x00\x00\x00\x00\x00", "")), impl.DiskDone)
	checkDisk(t, diskOf(5), segLateCall(0, ""), diskOf(5, fileOf(0, "", "\x00\x00\x00\x00\x00")), impl.DiskDone)
	some := diskOf(20, fileOf(3, "s", "l"), fileOf(4, "", "m"), fileOf(20, "n", "o"))
	// What was late ahead of it is safe behind an add, in that segment alone.
	checkDisk(t, some, segAddCall(3, "ab"), diskOf(20, fileOf(3, "sl"+ab, ""), fileOf(4, "", "m"), fileOf(20, "n", "o")), impl.DiskDone)
	checkDisk(t, some, segAddCall(4, "ab"), diskOf(20, fileOf(3, "s", "l"), fileOf(4, "m"+ab, ""), fileOf(20, "n", "o")), impl.DiskDone)
	checkDisk(t, some, segLateCall(3, "ab"), diskOf(20, fileOf(3, "s", "l"+ab), fileOf(4, "", "m"), fileOf(20, "n", "o")), impl.DiskDone)
	checkDisk(t, some, segAddCall(19, "ab"), diskOf(20, fileOf(3, "s", "l"), fileOf(4, "", "m"), fileOf(19, ab, ""), fileOf(20, "n", "o")), impl.DiskDone)
	checkDisk(t, some, segLateCall(0, "ab"), diskOf(20, fileOf(0, "", ab), fileOf(3, "s", "l"), fileOf(4, "", "m"), fileOf(20, "n", "o")), impl.DiskDone)
}

// To each segment, to one that is there and to one that is not; nothing else is turned.
func TestP15AddToEachSegment(t *testing.T) {
	for seg := range 20 {
		row := ableRows()[seg]
		for _, text := range []string{"", "x", "more", "\x00\xff\n", string(drawnBytes(seg, 100))} {
			sealed := rowOf(text)
			checkDisk(t, ableDisk(), segAddCall(seg, text), withFile(ableDisk(), fileOf(seg, row[0]+row[1]+sealed, "")), impl.DiskDone)
			checkDisk(t, ableDisk(), segLateCall(seg, text), withFile(ableDisk(), fileOf(seg, row[0], row[1]+sealed)), impl.DiskDone)
			checkDisk(t, diskOf(200), segAddCall(seg, text), diskOf(200, fileOf(seg, sealed, "")), impl.DiskDone)
			checkDisk(t, diskOf(200), segLateCall(seg, text), diskOf(200, fileOf(seg, "", sealed)), impl.DiskDone)
		}
	}
}

// What is added one behind the other is read so; from the seventh on it is written, but not read.
func TestP15AddOneBehindTheOther(t *testing.T) {
	for _, records := range append(manyRows(), slices.Concat(sixRecords(), byteRecords())) {
		for seg := 0; seg < 20; seg += 19 {
			added, late := diskOf(3000, fileOf(21, "s", "l")), diskOf(3000, fileOf(21, "s", "l"))
			for i, record := range records {
				added, _ = impl.SegAdd(added, seg, record)
				late, _ = impl.SegLate(late, seg, record)
				told := records[:min(i+1, 6)]
				checkSegRead(t, added, seg, told, len(rowOf(told...)))
				checkSegRead(t, late, seg, told, len(rowOf(told...)))
				checkDiskRead(t, added, seg, rowOf(records[:i+1]...), true)
			}
			whole := rowOf(records...)
			if want := withFile(diskOf(3000, fileOf(21, "s", "l")), fileOf(seg, whole, "")); !sameDisk(added, want) {
				t.Errorf("added it is %s; want %s", diskText(added), diskText(want))
			}
			if want := withFile(diskOf(3000, fileOf(21, "s", "l")), fileOf(seg, "", whole)); !sameDisk(late, want) {
				t.Errorf("added late it is %s; want %s", diskText(late), diskText(want))
			}
		}
	}
}

func TestP15AddTextsOfAllLengths(t *testing.T) {
	for _, n := range []int{0, 1, 2, 126, 127, 128, 129, 255, 256, 8999, 9000} {
		for _, text := range []string{strings.Repeat("\x00", n), strings.Repeat("\xff", n), string(drawnBytes(n, n))} {
			d := diskOf(60000, fileOf(6, rowOf("safe"), rowOf("late")))
			checkDisk(t, d, segAddCall(6, text), diskOf(60000, fileOf(6, rowOf("safe", "late", text), "")), impl.DiskDone)
			checkDisk(t, d, segLateCall(6, text), diskOf(60000, fileOf(6, rowOf("safe"), rowOf("late", text))), impl.DiskDone)
			for _, c := range bothCalls(6, text) {
				next, _ := c.do(d)
				checkSegRead(t, next, 6, []string{"safe", "late", text}, len(rowOf("safe", "late", text)))
			}
		}
	}
	for _, n := range []int{9001, 9002, 16384, 60001, 100000} {
		for seg := range 20 {
			for _, c := range bothCalls(seg, strings.Repeat("x", n)) {
				checkDiskBad(t, ableDisk(), c)
				checkDiskBad(t, diskOf(60000), c)
				checkDiskBad(t, diskOf(0), c)
			}
		}
	}
}

// Just as much room as the record takes, and one byte less.
func TestP15AddRoom(t *testing.T) {
	for _, n := range []int{0, 1, 5, 127, 128, 300, 9000} {
		text := string(drawnBytes(n, n))
		takes := len(rowOf(text))
		for _, seg := range []int{0, 2, 3, 19} {
			for _, d := range []impl.Disk{diskOf(0), diskOf(5, fileOf(2, "ab", "c"), fileOf(21, "d", "e")), diskOf(60, fileOf(3, rowOf(sixRecords()...), ""))} {
				for _, c := range bothCalls(seg, text) {
					used := len(rowOfFiles(d))
					enough, less := diskOf(used+takes, d.Files...), diskOf(used+takes-1, d.Files...)
					checkDiskByWords(t, enough, c)
					if next, code := c.do(enough); code != impl.DiskDone || len(rowOfFiles(next)) != next.Room {
						t.Errorf("%v of %s is %d: %s", c, diskText(enough), code, diskText(next))
					}
					checkDisk(t, less, c, less, impl.DiskFull)
					checkDisk(t, diskOf(used, d.Files...), c, diskOf(used, d.Files...), impl.DiskFull)
				}
			}
		}
	}
	most := strings.Repeat("x", 9000)
	d := diskOf(60000, fileOf(1, strings.Repeat("y", 50994), ""))
	checkDisk(t, d, segAddCall(0, most), withFile(d, fileOf(0, rowOf(most), "")), impl.DiskDone)
	checkDisk(t, withFile(d, fileOf(20, "", "z")), segAddCall(0, most), withFile(d, fileOf(20, "", "z")), impl.DiskFull)
}

// rowOfFiles are all bytes of a disk.
func rowOfFiles(d impl.Disk) string {
	row := strings.Builder{}
	for _, f := range d.Files {
		row.WriteString(f.Safe)
		row.WriteString(f.Late)
	}
	return row.String()
}

// noSegs are numbers of which no file is a segment, on either side.
func noSegs() []int {
	return []int{math.MinInt, -20, -2, -1, 20, 21, 22, 23, 40, 1 << 32, 1<<32 + 3, math.MaxInt}
}

// DiskBad comes ahead of DiskFull: a segment that is none, a text that is too long, a disk that is wrong.
func TestP15AddBadComesFirst(t *testing.T) {
	texts := []string{"", "x", strings.Repeat("x", 9000), strings.Repeat("x", 9001)}
	for _, text := range texts {
		for _, seg := range noSegs() {
			for _, d := range []impl.Disk{{}, ableDisk(), diskOf(60000), fullDisk(), someDisk()} {
				for _, c := range bothCalls(seg, text) {
					checkDiskBad(t, d, c)
				}
			}
		}
		for _, d := range slices.Concat(wrongSegDisks(), wrongDisks()) {
			for seg := -1; seg <= 22; seg++ {
				for _, c := range bothCalls(seg, text) {
					checkDiskBad(t, d, c)
				}
			}
		}
	}
	for seg := range 20 {
		for _, c := range bothCalls(seg, texts[3]) {
			checkDiskBad(t, fullDisk(), c)
		}
		for _, c := range bothCalls(seg, texts[2]) {
			checkDisk(t, fullDisk(), c, fullDisk(), impl.DiskFull)
		}
	}
}

// An add leaves nothing late in its segment, a late one leaves what is safe as it was, and neither turns another file.
func TestP15AddByTheWords(t *testing.T) {
	codes := [4]int{}
	for _, d := range slices.Concat(rightDisks(), []impl.Disk{ableDisk(), diskOf(418, ableDisk().Files...)}) {
		for _, seg := range []int{-1, 0, 1, 3, 4, 5, 7, 9, 12, 19, 20, 21} {
			for _, text := range []string{"", "x", "yz", string(drawnBytes(3, 30)), strings.Repeat("x", 9000), strings.Repeat("x", 9001)} {
				for _, c := range bothCalls(seg, text) {
					checkDiskByWords(t, d, c)
					next, code := c.do(d)
					codes[code]++
					if code == impl.DiskDone {
						checkAddedTo(t, d, next, c)
					}
				}
			}
		}
	}
	if codes[impl.DiskDone] < 100 || codes[impl.DiskBad] < 100 || codes[impl.DiskFull] < 100 {
		t.Error("the calls are too much alike", codes)
	}
}

func checkAddedTo(t *testing.T, d impl.Disk, next impl.Disk, c segCall) {
	t.Helper()
	for _, f := range next.Files {
		i := slices.IndexFunc(d.Files, func(g impl.File) bool { return g.Name == f.Name })
		before := fileOf(f.Name, "", "")
		if i >= 0 {
			before = d.Files[i]
		}
		switch {
		case f.Name != c.seg && f != before:
			t.Errorf("%v of %s turns %s to %s", c, diskText(d), fileText(before), fileText(f))
		case f.Name == c.seg && c.what == "add" && f.Late != "":
			t.Errorf("%v of %s leaves %s", c, diskText(d), fileText(f))
		case f.Name == c.seg && c.what == "late" && f.Safe != before.Safe:
			t.Errorf("%v of %s makes safe %s", c, diskText(d), fileText(f))
		}
	}
}
