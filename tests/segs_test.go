package tests

import (
	"math"
	"slices"
	"strings"
	"testing"

	"loop.example/g00110/impl"
)

// wantSegsFrom lays all segments twice in a row, and asks for the first gap.
func wantSegsFrom(d impl.Disk, from int) []int {
	if !diskRight(d) || !segRight(from) {
		return []int{}
	}
	row := make([]byte, 40)
	for seg := range row {
		row[seg] = '.'
		if slices.ContainsFunc(d.Files, func(f impl.File) bool { return f.Name == seg%20 }) {
			row[seg] = 'x'
		}
	}
	segs := []int{}
	for i := range strings.IndexByte(string(row[from:from+20])+".", '.') {
		segs = append(segs, (from+i)%20)
	}
	return segs
}

func wantSegsClear(d impl.Disk, keep []int) impl.Disk {
	if !diskRight(d) || len(keep) > 20 {
		return impl.Disk{}
	}
	return diskOf(d.Room, slices.DeleteFunc(slices.Clone(d.Files), func(f impl.File) bool {
		return segRight(f.Name) && !slices.Contains(keep, f.Name)
	})...)
}

func checkSegsFrom(t *testing.T, d impl.Disk, from int, want ...int) {
	t.Helper()
	if got := impl.SegsFrom(d, from); !slices.Equal(got, want) {
		t.Errorf("SegsFrom(%s, %d) = %v; want %v", diskText(d), from, got, want)
	}
}

func checkSegsClear(t *testing.T, d impl.Disk, keep []int, want impl.Disk) {
	t.Helper()
	got := impl.SegsClear(d, keep)
	if !sameDisk(got, want) || !impl.DiskOk(got) {
		t.Errorf("SegsClear(%s, %v) = %s; want %s", diskText(d), keep, diskText(got), diskText(want))
	}
}

// segsDisk has these files, in turn safe, late, both and empty ones.
func segsDisk(names ...int) impl.Disk {
	d := diskOf(500)
	for i, name := range names {
		d.Files = append(d.Files, []impl.File{fileOf(name, "ab", ""), fileOf(name, "", "cde"), fileOf(name, rowOf("f"), "g"), fileOf(name, "", "")}[i%4])
	}
	return d
}

// segsWithout are all segments but these.
func segsWithout(gaps ...int) []int {
	segs := []int{}
	for seg := range 20 {
		if !slices.Contains(gaps, seg) {
			segs = append(segs, seg)
		}
	}
	return segs
}

func TestP15SegsFromByHand(t *testing.T) {
	d := segsDisk(0, 1, 3, 7, 8, 9, 18, 19, 20, 21)
	want := map[int][]int{
		0: {0, 1}, 1: {1}, 3: {3}, 7: {7, 8, 9}, 8: {8, 9}, 9: {9}, 18: {18, 19, 0, 1}, 19: {19, 0, 1},
	}
	for from := -3; from < 30; from++ {
		checkSegsFrom(t, d, from, want[from]...)
	}
	// Over the last one into the first one, if that is there.
	checkSegsFrom(t, segsDisk(19), 19, 19)
	checkSegsFrom(t, segsDisk(0, 19), 19, 19, 0)
	checkSegsFrom(t, segsDisk(0, 19), 0, 0)
	checkSegsFrom(t, segsDisk(1, 19), 19, 19)
	checkSegsFrom(t, segsDisk(0, 20, 21), 0, 0)
	checkSegsFrom(t, segsDisk(20, 21), 19)
	checkSegsFrom(t, segsDisk(0, 19, 20, 21), 20)
}

// With all of them there each is told once, from any one on.
func TestP15SegsFromOfAll(t *testing.T) {
	for _, d := range []impl.Disk{segsDisk(segsWithout()...), segsDisk(append(segsWithout(), 20, 21)...), fullDisk()} {
		for from := range 20 {
			want := []int{}
			for seg := from; seg < 20; seg++ {
				want = append(want, seg)
			}
			for seg := range from {
				want = append(want, seg)
			}
			checkSegsFrom(t, d, from, want...)
		}
	}
}

func TestP15SegsFromWithGaps(t *testing.T) {
	for gap := range 20 {
		for other := range 20 {
			d := segsDisk(segsWithout(gap, other)...)
			for from := range 20 {
				checkSegsFrom(t, d, from, wantSegsFrom(d, from)...)
			}
			checkSegsFrom(t, d, gap)
			checkSegsFrom(t, d, other)
			// Just what is between the two gaps, whichever way round.
			between := []int{}
			for seg := (gap + 1) % 20; seg != other && seg != gap; seg = (seg + 1) % 20 {
				between = append(between, seg)
			}
			if len(between) > 0 {
				checkSegsFrom(t, d, between[0], between...)
			}
		}
	}
	for seed := range 300 {
		roll := dice(seed)
		names := []int{}
		for name := range 22 {
			if roll(4) > seed%3 {
				names = append(names, name)
			}
		}
		for from := -1; from <= 22; from++ {
			checkSegsFrom(t, segsDisk(names...), from, wantSegsFrom(segsDisk(names...), from)...)
		}
	}
}

func TestP15SegsFromNothing(t *testing.T) {
	for _, from := range noSegs() {
		for _, d := range []impl.Disk{{}, fullDisk(), ableDisk(), segsDisk(20, 21)} {
			checkSegsFrom(t, d, from)
		}
	}
	for from := range 20 {
		checkSegsFrom(t, impl.Disk{}, from)
		checkSegsFrom(t, diskOf(60000), from)
		checkSegsFrom(t, segsDisk(20, 21), from)
		for _, d := range slices.Concat(wrongSegDisks(), wrongDisks()) {
			checkSegsFrom(t, d, from)
		}
	}
}

func TestP15ClearByHand(t *testing.T) {
	d := diskOf(60, fileOf(0, "a", "bc"), fileOf(1, "", "d"), fileOf(5, "ef", ""), fileOf(19, "", ""), fileOf(20, "g", "h"), fileOf(21, "", "i"))
	no, save := fileOf(20, "g", "h"), fileOf(21, "", "i")
	checkSegsClear(t, d, nil, diskOf(60, no, save))
	checkSegsClear(t, d, []int{}, diskOf(60, no, save))
	checkSegsClear(t, d, []int{0}, diskOf(60, fileOf(0, "a", "bc"), no, save))
	checkSegsClear(t, d, []int{19}, diskOf(60, fileOf(19, "", ""), no, save))
	checkSegsClear(t, d, []int{5, 1}, diskOf(60, fileOf(1, "", "d"), fileOf(5, "ef", ""), no, save))
	checkSegsClear(t, d, []int{5, 0, 5, 5, 0}, diskOf(60, fileOf(0, "a", "bc"), fileOf(5, "ef", ""), no, save))
	checkSegsClear(t, d, []int{19, 5, 1, 0}, d)
	// Of what is not there nothing comes, and of what is no segment nothing goes.
	checkSegsClear(t, d, []int{2, 18}, diskOf(60, no, save))
	checkSegsClear(t, d, []int{20, 21}, diskOf(60, no, save))
	checkSegsClear(t, d, []int{math.MinInt, -1, 1, 22, math.MaxInt}, diskOf(60, fileOf(1, "", "d"), no, save))
	checkSegsClear(t, diskOf(60), []int{1, 2}, diskOf(60))
	checkSegsClear(t, impl.Disk{}, nil, impl.Disk{})
	checkSegsClear(t, diskOf(9, fileOf(3, "a", "")), nil, diskOf(9))
	checkSegsClear(t, diskOf(9, fileOf(20, "a", "")), nil, diskOf(9, fileOf(20, "a", "")))
}

// Each segment by itself, and all others: what is kept is as it was, with what is safe and what is late of it.
func TestP15ClearOfEachSegment(t *testing.T) {
	d := diskOf(60000)
	for name := range 22 {
		d.Files = append(d.Files, fileOf(name, strings.Repeat("s", name), rowOf(strings.Repeat("l", 30-name))))
	}
	behind := d.Files[20:]
	for seg := range 20 {
		checkSegsClear(t, d, []int{seg}, diskOf(60000, append([]impl.File{d.Files[seg]}, behind...)...))
		checkSegsClear(t, d, segsWithout(seg), diskOf(60000, without(d.Files, seg)...))
		checkSegsClear(t, diskOf(60000, without(d.Files, seg)...), []int{seg}, diskOf(60000, behind...))
	}
	checkSegsClear(t, d, segsWithout(), d)
	checkSegsClear(t, d, nil, diskOf(60000, behind...))
}

// As many numbers as there are segments, and one more, whatever they are.
func TestP15ClearOfTooManyNumbers(t *testing.T) {
	for _, d := range append(rightDisks(), ableDisk(), segsDisk(segsWithout()...)) {
		for _, keep := range [][]int{segsWithout(), repeated(20, 3), repeated(20, -1), repeated(20, 21), repeated(20, math.MaxInt)} {
			checkSegsClear(t, d, keep, wantSegsClear(d, keep))
			checkSegsClear(t, d, keep[1:], wantSegsClear(d, keep[1:]))
			for _, more := range [][]int{{0}, {3}, {-1}, {20}, {math.MinInt}, keep, repeated(1000, 3)} {
				checkSegsClear(t, d, slices.Concat(keep, more), impl.Disk{})
				checkSegsClear(t, d, slices.Concat(more, keep), impl.Disk{})
			}
		}
	}
	// The room behind the numbers is no part of them.
	checkSegsClear(t, ableDisk(), repeated(30, 3)[:20], wantSegsClear(ableDisk(), []int{3}))
	checkSegsClear(t, ableDisk(), []int{3, 4}[:1], wantSegsClear(ableDisk(), []int{3}))
}

// keepLists are lists of numbers to keep, in order and out of it, with what is no segment and with too many.
func keepLists() [][]int {
	return [][]int{
		nil, {}, {0}, {19}, {3, 1}, {1, 1, 1}, {20}, {-1, 22}, {19, 18, 8, 5, 4, 3, 1, 0}, {math.MinInt, 4, math.MaxInt},
		segsWithout(), segsWithout(0), segsWithout(19, 3), repeated(20, 5), repeated(21, 5), append(segsWithout(), 0), repeated(5000, 0),
	}
}

func TestP15ClearByTheWords(t *testing.T) {
	for _, d := range slices.Concat(rightDisks(), wrongDisks(), wrongSegDisks(), smallDisks(), []impl.Disk{ableDisk()}) {
		for _, keep := range keepLists() {
			checkSegsClear(t, d, keep, wantSegsClear(d, keep))
		}
	}
	for _, d := range slices.Concat(wrongDisks(), wrongSegDisks()) {
		for _, keep := range keepLists() {
			checkSegsClear(t, d, keep, impl.Disk{})
		}
	}
	for seed := range 300 {
		roll := dice(seed)
		names, keep := []int{}, []int{}
		for name := range 22 {
			if roll(3) > 0 {
				names = append(names, name)
			}
		}
		for range roll(23) {
			keep = append(keep, roll(26)-2)
		}
		checkSegsClear(t, segsDisk(names...), keep, wantSegsClear(segsDisk(names...), keep))
	}
}

// What is cleared is there no more, and makes room.
func TestP15ClearMakesRoom(t *testing.T) {
	d := diskOf(13, fileOf(3, rowOf("ab"), ""), fileOf(4, "", rowOf("c")))
	checkDisk(t, d, segAddCall(5, ""), d, impl.DiskFull)
	cleared := impl.SegsClear(d, []int{4})
	checkNoRecord(t, cleared, 3)
	checkSegRead(t, cleared, 4, []string{"c"}, 6)
	checkSegsFrom(t, cleared, 3)
	checkDisk(t, cleared, segMendCall(3), cleared, impl.DiskNone)
	checkDisk(t, cleared, segAddCall(5, "xy"), diskOf(13, fileOf(4, "", rowOf("c")), fileOf(5, rowOf("xy"), "")), impl.DiskDone)
	checkDisk(t, cleared, segAddCall(5, "xyz"), cleared, impl.DiskFull)
}
