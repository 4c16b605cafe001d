package tests

import (
	"math"
	"slices"
	"strings"
	"testing"

	"loop.example/g00110/impl"
)

// movedDisk is someDisk without the file at a place and without all files of the name of f, which stands there instead.
func movedDisk(place int, f impl.File) impl.Disk {
	d := someDisk()
	d.Files = slices.DeleteFunc(without(d.Files, place), func(g impl.File) bool { return g.Name == f.Name })
	d.Files = append(d.Files, f)
	slices.SortFunc(d.Files, func(a impl.File, b impl.File) int { return a.Name - b.Name })
	return d
}

func TestP14Move(t *testing.T) {
	for place, f := range someDisk().Files {
		for to := range 22 {
			if to != f.Name {
				// What is safe and what is late are as they were, under the other name.
				checkDisk(t, someDisk(), fileMoveCall(f.Name, to), movedDisk(place, fileOf(to, f.Safe, f.Late)), impl.DiskDone)
			}
		}
	}
}

func TestP14MoveByHand(t *testing.T) {
	three := diskOf(9, fileOf(2, "ab", "c"), fileOf(5, "", "de"), fileOf(8, "f", ""))
	done := map[[2]int]impl.Disk{
		// To a name that is not there: upwards and downwards, past others and not.
		{2, 3}:  diskOf(9, fileOf(3, "ab", "c"), fileOf(5, "", "de"), fileOf(8, "f", "")),
		{2, 6}:  diskOf(9, fileOf(5, "", "de"), fileOf(6, "ab", "c"), fileOf(8, "f", "")),
		{2, 21}: diskOf(9, fileOf(5, "", "de"), fileOf(8, "f", ""), fileOf(21, "ab", "c")),
		{5, 4}:  diskOf(9, fileOf(2, "ab", "c"), fileOf(4, "", "de"), fileOf(8, "f", "")),
		{5, 0}:  diskOf(9, fileOf(0, "", "de"), fileOf(2, "ab", "c"), fileOf(8, "f", "")),
		{8, 0}:  diskOf(9, fileOf(0, "f", ""), fileOf(2, "ab", "c"), fileOf(5, "", "de")),
		// To one that is there, which is gone with all it had.
		{2, 5}: diskOf(9, fileOf(5, "ab", "c"), fileOf(8, "f", "")),
		{2, 8}: diskOf(9, fileOf(5, "", "de"), fileOf(8, "ab", "c")),
		{5, 2}: diskOf(9, fileOf(2, "", "de"), fileOf(8, "f", "")),
		{8, 2}: diskOf(9, fileOf(2, "f", ""), fileOf(5, "", "de")),
		{8, 5}: diskOf(9, fileOf(2, "ab", "c"), fileOf(5, "f", "")),
	}
	for names, want := range done {
		checkDisk(t, three, fileMoveCall(names[0], names[1]), want, impl.DiskDone)
	}
	checkDisk(t, diskOf(3, fileOf(0, "a", "bc")), fileMoveCall(0, 21), diskOf(3, fileOf(21, "a", "bc")), impl.DiskDone)
	checkDisk(t, diskOf(3, fileOf(21, "", "")), fileMoveCall(21, 0), diskOf(3, fileOf(0, "", "")), impl.DiskDone)
}

func TestP14MoveRefused(t *testing.T) {
	for name := range 22 {
		for _, d := range []impl.Disk{{}, someDisk(), fullDisk()} {
			checkDiskBad(t, d, fileMoveCall(name, name))
			for _, wrong := range []int{math.MinInt, -22, -1, 22, 23, 1 << 32, math.MaxInt} {
				checkDiskBad(t, d, fileMoveCall(name, wrong))
				checkDiskBad(t, d, fileMoveCall(wrong, name))
				checkDiskBad(t, d, fileMoveCall(wrong, wrong))
			}
		}
	}
	// From a name that is not there, to one that is there and to one that is not.
	for _, from := range []int{0, 2, 8, 20} {
		for _, to := range []int{1, 3, 4, 9, 12, 21} {
			checkDisk(t, someDisk(), fileMoveCall(from, to), someDisk(), impl.DiskNone)
			checkDisk(t, diskOf(9), fileMoveCall(from, to), diskOf(9), impl.DiskNone)
		}
	}
}

// A move makes nothing safe, and nothing late: a crash behind it tears just what it would have torn ahead of it.
func TestP14CrashBehindAMove(t *testing.T) {
	for keep := -1; keep < 6; keep++ {
		for _, d := range []impl.Disk{someDisk(), byteDisk(), fullDisk()} {
			for _, f := range d.Files {
				for to := range 22 {
					moved, _ := impl.DiskMove(d, f.Name, to)
					late, _ := impl.DiskMove(impl.DiskCrash(d, keep), f.Name, to)
					if got := impl.DiskCrash(moved, keep); !sameDisk(got, late) {
						t.Errorf("%s: moved from %d to %d and crashed it is %s, crashed and moved %s", diskText(d), f.Name, to, diskText(got), diskText(late))
					}
				}
			}
		}
	}
}

func TestP14Drop(t *testing.T) {
	for _, d := range []impl.Disk{someDisk(), byteDisk(), fullDisk(), wideDisk(), diskOf(4, fileOf(7, "ab", "cd")), diskOf(0, fileOf(0, "", ""))} {
		for i, f := range d.Files {
			checkDisk(t, d, dropCall(f.Name), diskOf(d.Room, without(d.Files, i)...), impl.DiskDone)
		}
	}
	for _, name := range []int{0, 2, 8, 11, 20} {
		checkDisk(t, someDisk(), dropCall(name), someDisk(), impl.DiskNone)
		checkDisk(t, diskOf(9), dropCall(name), diskOf(9), impl.DiskNone)
	}
	// Dropped once, it is there no more.
	once, _ := impl.DiskDrop(someDisk(), 9)
	checkDisk(t, once, dropCall(9), once, impl.DiskNone)
	checkDiskRead(t, once, 9, "", false)
}

// diskCalls are calls of all kinds of one name, such that are done, and such that are refused.
func diskCalls(name int) []diskCall {
	return []diskCall{
		appendCall(name, ""), appendCall(name, "xy"), appendCall(name, strings.Repeat("x", 60001)), syncCall(name),
		cutCall(name, 0), cutCall(name, 2), cutCall(name, -1), cutCall(name, 60001),
		fileMoveCall(name, 0), fileMoveCall(name, 9), fileMoveCall(name, 10), fileMoveCall(name, 21), dropCall(name),
	}
}

// DiskBad comes ahead of all, also where there is no such file, or no room.
func TestP14BadComesFirst(t *testing.T) {
	for _, d := range wrongDisks() {
		for name := -1; name <= 22; name++ {
			for _, c := range diskCalls(name) {
				checkDiskBad(t, d, c)
			}
		}
	}
	for _, d := range rightDisks() {
		for _, name := range []int{math.MinInt, -22, -1, 22, 23, 1 << 32, math.MaxInt} {
			for _, c := range diskCalls(name) {
				checkDiskBad(t, d, c)
			}
		}
	}
}

func TestP14CallsByTheWords(t *testing.T) {
	codes := [4]int{}
	for _, d := range rightDisks() {
		for name := -1; name <= 22; name++ {
			for _, c := range diskCalls(name) {
				checkDiskByWords(t, d, c)
				_, code := c.do(d)
				codes[code]++
			}
		}
	}
	if slices.Min(codes[:]) < 100 {
		t.Error("the calls are too much alike", codes)
	}
}

// smallDisks are all disks of at most two names with few bytes.
func smallDisks() []impl.Disk {
	list := []impl.Disk{}
	texts := []string{"", "a", "bc"}
	for _, room := range []int{0, 2, 4, 8} {
		list = append(list, diskOf(room))
		for _, safe := range texts {
			for _, late := range texts {
				list = append(list, diskOf(room, fileOf(0, safe, late)), diskOf(room, fileOf(1, safe, late)))
				for _, other := range texts {
					list = append(list, diskOf(room, fileOf(0, safe, late), fileOf(1, other, "d")), diskOf(room, fileOf(0, "e", other), fileOf(1, safe, late)))
				}
			}
		}
	}
	return list
}

// Small disks, right and wrong, and each two calls one behind the other.
func TestP14SmallDisksByTheWords(t *testing.T) {
	calls := []diskCall{}
	for name := range 3 {
		calls = append(calls, appendCall(name, ""), appendCall(name, "x"), appendCall(name, "yz"), syncCall(name), dropCall(name))
		for n := -1; n < 6; n++ {
			calls = append(calls, cutCall(name, n))
		}
		for to := -1; to < 4; to++ {
			calls = append(calls, fileMoveCall(name, to))
		}
	}
	for _, d := range smallDisks() {
		checkDiskOk(t, d, diskRight(d))
		for _, first := range calls {
			checkDiskByWords(t, d, first)
			next, _ := first.do(d)
			for _, second := range calls {
				checkDiskByWords(t, next, second)
			}
		}
	}
}
