package tests

import (
	"fmt"
	"math"
	"slices"
	"strconv"
	"strings"
	"testing"

	"loop.example/g00110/impl"
)

func fileOf(name int, safe string, late string) impl.File {
	return impl.File{Name: name, Safe: safe, Late: late}
}

func diskOf(room int, files ...impl.File) impl.Disk { return impl.Disk{Room: room, Files: files} }

func sameDisk(a impl.Disk, b impl.Disk) bool {
	return a.Room == b.Room && slices.Equal(a.Files, b.Files)
}

func cloneDisk(d impl.Disk) impl.Disk { return diskOf(d.Room, slices.Clone(d.Files)...) }

// short keeps what a test tells readable, where a text is long.
func short(text string) string {
	if len(text) <= 40 {
		return strconv.Quote(text)
	}
	return fmt.Sprintf("%q.. (%d bytes)", text[:20], len(text))
}

func fileText(f impl.File) string {
	return fmt.Sprintf("%d: %s %s", f.Name, short(f.Safe), short(f.Late))
}

func diskText(d impl.Disk) string {
	texts := []string{}
	for _, f := range d.Files[:min(len(d.Files), 25)] {
		texts = append(texts, fileText(f))
	}
	return fmt.Sprintf("{room %d, %d files: %s}", d.Room, len(d.Files), strings.Join(texts, ", "))
}

func nameRight(name int) bool { return 0 <= name && name <= 21 }

// diskRight holds each two files against each other, and lays all bytes in one row.
func diskRight(d impl.Disk) bool {
	all := strings.Builder{}
	for i, f := range d.Files {
		if !nameRight(f.Name) || slices.ContainsFunc(d.Files[:i], func(g impl.File) bool { return g.Name >= f.Name }) {
			return false
		}
		all.WriteString(f.Safe)
		all.WriteString(f.Late)
	}
	return 0 <= d.Room && d.Room <= 60000 && all.Len() <= d.Room
}

// allBytes has each byte once, from 0 to 255.
func allBytes() string {
	b := make([]byte, 256)
	for i := range b {
		b[i] = byte(i)
	}
	return string(b)
}

// someDisk has a file of each kind, and room for three bytes more.
func someDisk() impl.Disk {
	return diskOf(20, fileOf(1, "ab", "cde"), fileOf(4, "fgh", ""), fileOf(9, "", "ijkl"), fileOf(12, "", ""), fileOf(21, "mn", "opq"))
}

// byteDisk has bytes of all values on either side, and texts that end amid what would be one sign of several bytes.
func byteDisk() impl.Disk {
	return diskOf(1000, fileOf(0, allBytes(), allBytes()), fileOf(7, "\x00\n\x80\xff", "\xff\x80\n\x00"), fileOf(20, "\xe2", "\x82\xac\x00"))
}

// fullDisk has a file of each name, and just as many bytes as it has room for.
func fullDisk() impl.Disk {
	d := diskOf(0)
	for name := range 22 {
		f := fileOf(name, strings.Repeat("s", name%5), strings.Repeat("l", name%3))
		d.Files = append(d.Files, f)
		d.Room += len(f.Safe) + len(f.Late)
	}
	return d
}

// wideDisk is as great as a disk may be.
func wideDisk() impl.Disk {
	return diskOf(60000, fileOf(3, string(drawnBytes(3, 20000)), string(drawnBytes(4, 15000))), fileOf(5, string(drawnBytes(5, 25000)), ""))
}

func rightDisks() []impl.Disk {
	return []impl.Disk{
		{}, {Files: []impl.File{}}, {Room: 60000}, {Room: 5, Files: []impl.File{}},
		diskOf(0, fileOf(0, "", "")), diskOf(0, fileOf(0, "", ""), fileOf(21, "", "")),
		diskOf(1, fileOf(21, "a", "")), diskOf(1, fileOf(21, "", "a")), diskOf(7, fileOf(8, "abc", "defg")),
		diskOf(9, fileOf(0, "abc", ""), fileOf(1, "", "def"), fileOf(2, "", "")),
		someDisk(), byteDisk(), fullDisk(), wideDisk(),
	}
}

// wrongDisks are wrong by one thing each.
func wrongDisks() []impl.Disk {
	list := []impl.Disk{
		{Room: -1}, {Room: 60001}, {Room: math.MinInt}, {Room: math.MaxInt},
		diskOf(-1, fileOf(3, "", "")), diskOf(60001, fileOf(3, "a", "b")),
		diskOf(9, fileOf(-1, "a", "")), diskOf(9, fileOf(22, "a", "")), diskOf(9, fileOf(math.MinInt, "", "")), diskOf(9, fileOf(math.MaxInt, "", "")),
		diskOf(9, fileOf(-1, "a", ""), fileOf(4, "b", "")), diskOf(9, fileOf(4, "a", ""), fileOf(22, "b", "")),
		diskOf(9, fileOf(4, "a", ""), fileOf(3, "b", "")), diskOf(9, fileOf(4, "a", ""), fileOf(4, "a", "")), diskOf(9, fileOf(4, "a", ""), fileOf(4, "", "b")),
		diskOf(9, fileOf(1, "a", ""), fileOf(4, "b", ""), fileOf(1, "c", "")),
		diskOf(0, fileOf(0, "a", "")), diskOf(0, fileOf(0, "", "a")), diskOf(3, fileOf(4, "ab", "cd")), diskOf(3, fileOf(4, "ab", ""), fileOf(5, "", "cd")),
	}
	for _, d := range []impl.Disk{someDisk(), fullDisk()} {
		list = append(list, diskOf(d.Room, twice(d.Files, 2)...), diskOf(d.Room, append(slices.Clone(d.Files), fileOf(22, "", ""))...), diskOf(d.Room, append([]impl.File{fileOf(-1, "", "")}, d.Files...)...))
	}
	return list
}

func checkDiskOk(t *testing.T, d impl.Disk, want bool) {
	t.Helper()
	if got := impl.DiskOk(d); got != want {
		t.Errorf("DiskOk(%s) = %v", diskText(d), got)
	}
}

func TestP14Constants(t *testing.T) {
	if impl.MaxNames != 22 || impl.MaxRoom != 60000 {
		t.Error("limits", impl.MaxNames, impl.MaxRoom)
	}
	if impl.DiskDone != 0 || impl.DiskBad != 1 || impl.DiskNone != 2 || impl.DiskFull != 3 {
		t.Error("codes", impl.DiskDone, impl.DiskBad, impl.DiskNone, impl.DiskFull)
	}
}

func TestP14DisksThatAreOk(t *testing.T) {
	for _, d := range rightDisks() {
		checkDiskOk(t, d, true)
	}
	for _, d := range wrongDisks() {
		checkDiskOk(t, d, false)
	}
}

func TestP14RoomOfADisk(t *testing.T) {
	rooms := map[int]bool{math.MinInt: false, -60000: false, -1: false, 0: true, 1: true, 59999: true, 60000: true, 60001: false, math.MaxInt: false}
	for room, want := range rooms {
		for _, files := range [][]impl.File{nil, {}, {fileOf(0, "", "")}, {fileOf(3, "", ""), fileOf(21, "", "")}} {
			checkDiskOk(t, diskOf(room, files...), want)
		}
	}
}

func TestP14NamesOfFiles(t *testing.T) {
	names := map[int]bool{math.MinInt: false, -22: false, -1: false, 0: true, 1: true, 20: true, 21: true, 22: false, 23: false, 1 << 32: false, math.MaxInt: false}
	for name, want := range names {
		checkDiskOk(t, diskOf(9, fileOf(name, "", "")), want)
		checkDiskOk(t, diskOf(9, fileOf(name, "ab", "c")), want)
		checkDiskOk(t, diskOf(9, fileOf(name, "", ""), fileOf(10, "", "")), want && name < 10)
		checkDiskOk(t, diskOf(9, fileOf(10, "", ""), fileOf(name, "", "")), want && name > 10)
	}
}

func TestP14OrderOfFiles(t *testing.T) {
	for a := range 22 {
		for b := range 22 {
			checkDiskOk(t, diskOf(9, fileOf(a, "x", ""), fileOf(b, "", "y")), a < b)
			for _, c := range []int{0, 1, 10, 20, 21} {
				checkDiskOk(t, diskOf(9, fileOf(a, "", ""), fileOf(b, "", ""), fileOf(c, "", "")), a < b && b < c)
			}
		}
	}
	full := fullDisk()
	for i := range full.Files {
		checkDiskOk(t, diskOf(full.Room, without(full.Files, i)...), true)
		checkDiskOk(t, diskOf(60000, twice(full.Files, i)...), false)
		for j := range i {
			swapped := slices.Clone(full.Files)
			swapped[i], swapped[j] = swapped[j], swapped[i]
			checkDiskOk(t, diskOf(full.Room, swapped...), false)
		}
	}
}

// Each row of files has just n bytes.
func TestP14BytesOfADisk(t *testing.T) {
	for _, n := range []int{1, 2, 7, 255, 4096, 59999, 60000, 60001} {
		all := strings.Repeat("x", n)
		rows := [][]impl.File{
			{fileOf(0, all, "")}, {fileOf(21, "", all)}, {fileOf(5, all[:n/2], all[n/2:])}, {fileOf(5, all[:1], all[1:])},
			{fileOf(1, all[:n/2], ""), fileOf(2, all[n/2:], "")}, {fileOf(1, "", all[:1]), fileOf(2, "", all[1:])},
			{fileOf(1, all[1:], ""), fileOf(2, "", all[:1])}, {fileOf(0, "", ""), fileOf(9, all[1:], all[:1]), fileOf(21, "", "")},
		}
		spread := []impl.File{}
		for name := range 22 {
			part := all[n*name/22 : n*(name+1)/22]
			spread = append(spread, fileOf(name, part[len(part)/2:], part[:len(part)/2]))
		}
		for _, files := range append(rows, spread) {
			checkDiskOk(t, diskOf(n, files...), n <= 60000)
			checkDiskOk(t, diskOf(n-1, files...), false)
			checkDiskOk(t, diskOf(min(n+1, 60000), files...), n <= 60000)
			checkDiskOk(t, diskOf(0, files...), false)
		}
	}
}

func checkDiskRead(t *testing.T, d impl.Disk, name int, want string, wantOk bool) {
	t.Helper()
	if got, ok := impl.DiskRead(d, name); got != want || ok != wantOk {
		t.Errorf("DiskRead(%s, %d) = %s, %v; want %s, %v", diskText(d), name, short(got), ok, short(want), wantOk)
	}
}

func wantDiskRead(d impl.Disk, name int) (string, bool) {
	i := slices.IndexFunc(d.Files, func(f impl.File) bool { return f.Name == name })
	if !diskRight(d) || i < 0 {
		return "", false
	}
	return strings.Join([]string{d.Files[i].Safe, d.Files[i].Late}, ""), true
}

func TestP14Read(t *testing.T) {
	there := map[int]string{1: "abcde", 4: "fgh", 9: "ijkl", 12: "", 21: "mnopq"}
	for name := -3; name < 30; name++ {
		text, ok := there[name]
		checkDiskRead(t, someDisk(), name, text, ok)
	}
	for _, name := range []int{math.MinInt, -22, -1, 22, 1<<32 + 1, math.MaxInt} {
		checkDiskRead(t, someDisk(), name, "", false)
		checkDiskRead(t, fullDisk(), name, "", false)
	}
	checkDiskRead(t, byteDisk(), 0, allBytes()+allBytes(), true)
	checkDiskRead(t, byteDisk(), 7, "\x00\n\x80\xff\xff\x80\n\x00", true)
	checkDiskRead(t, byteDisk(), 20, "\xe2\x82\xac\x00", true)
	checkDiskRead(t, wideDisk(), 3, string(drawnBytes(3, 20000))+string(drawnBytes(4, 15000)), true)
	checkDiskRead(t, impl.Disk{}, 0, "", false)
	checkDiskRead(t, diskOf(0, fileOf(0, "", "")), 0, "", true)
	for name := range 22 {
		checkDiskRead(t, fullDisk(), name, strings.Repeat("s", name%5)+strings.Repeat("l", name%3), true)
	}
}

func TestP14ReadOfAWrongDisk(t *testing.T) {
	for _, d := range wrongDisks() {
		for name := -1; name <= 22; name++ {
			checkDiskRead(t, d, name, "", false)
		}
		for _, f := range d.Files {
			checkDiskRead(t, d, f.Name, "", false)
		}
	}
	// Wrong by another file than the one that is read.
	checkDiskRead(t, diskOf(9, fileOf(1, "ab", ""), fileOf(22, "", "")), 1, "", false)
	checkDiskRead(t, diskOf(3, fileOf(1, "ab", ""), fileOf(2, "cd", "")), 1, "", false)
	checkDiskRead(t, diskOf(9, fileOf(1, "ab", ""), fileOf(3, "", ""), fileOf(2, "", "")), 1, "", false)
}

// What stands behind the files of a disk, in the room of their list, is no part of it.
func TestP14RoomBehindFilesIsNoPart(t *testing.T) {
	whole := fullDisk()
	for n := range whole.Files {
		d := impl.Disk{Room: whole.Room, Files: whole.Files[:n]}
		checkDiskOk(t, d, true)
		checkDiskRead(t, d, n, "", false)
	}
	wrong := []impl.File{fileOf(1, "a", "b"), fileOf(1, "c", "d")}
	checkDiskOk(t, impl.Disk{Room: 2, Files: wrong[:1]}, true)
	checkDiskRead(t, impl.Disk{Room: 2, Files: wrong[:1]}, 1, "ab", true)
}
