package tests

import (
	"math"
	"slices"
	"strings"
	"testing"

	"loop.example/g00110/impl"
)

// wantCrash takes bytes of Late one by one, as long as it may.
func wantCrash(d impl.Disk, keep int) impl.Disk {
	if !diskRight(d) {
		return impl.Disk{}
	}
	after := diskOf(d.Room)
	for _, f := range d.Files {
		safe := []byte(f.Safe)
		for i := 0; i < keep && i < len(f.Late); i++ {
			safe = append(safe, f.Late[i])
		}
		after.Files = append(after.Files, fileOf(f.Name, string(safe), ""))
	}
	return after
}

func checkCrash(t *testing.T, d impl.Disk, keep int, want impl.Disk) {
	t.Helper()
	if got := impl.DiskCrash(d, keep); !sameDisk(got, want) {
		t.Errorf("DiskCrash(%s, %d) = %s; want %s", diskText(d), keep, diskText(got), diskText(want))
	}
}

// checkTorn wants the promise itself: what was safe is there, and behind it a beginning of what was late, and nothing else.
func checkTorn(t *testing.T, d impl.Disk, keep int) {
	t.Helper()
	after := impl.DiskCrash(d, keep)
	if !impl.DiskOk(after) || after.Room != d.Room || len(after.Files) != len(d.Files) {
		t.Errorf("DiskCrash(%s, %d) = %s", diskText(d), keep, diskText(after))
		return
	}
	for i, f := range d.Files {
		got := after.Files[i]
		torn, safeStays := strings.CutPrefix(got.Safe, f.Safe)
		if got.Name != f.Name || got.Late != "" || !safeStays || !strings.HasPrefix(f.Late, torn) || len(torn) != max(0, min(keep, len(f.Late))) {
			t.Errorf("DiskCrash(%s, %d) has %s of %s", diskText(d), keep, fileText(got), fileText(f))
		}
		checkDiskRead(t, after, f.Name, f.Safe+torn, true)
	}
}

func keeps() []int {
	return []int{math.MinInt, math.MinInt + 1, -60000, -2, -1, 0, 1, 2, 3, 4, 5, 100, 255, 256, 257, 14999, 15000, 15001, 60000, 60001, 1 << 32, math.MaxInt - 1, math.MaxInt}
}

func TestP14Crash(t *testing.T) {
	lost := diskOf(20, fileOf(1, "ab", ""), fileOf(4, "fgh", ""), fileOf(9, "", ""), fileOf(12, "", ""), fileOf(21, "mn", ""))
	kept := diskOf(20, fileOf(1, "abcde", ""), fileOf(4, "fgh", ""), fileOf(9, "ijkl", ""), fileOf(12, "", ""), fileOf(21, "mnopq", ""))
	for _, keep := range []int{math.MinInt, -60000, -3, -1, 0} {
		checkCrash(t, someDisk(), keep, lost)
	}
	for _, keep := range []int{4, 5, 60000, 60001, 1 << 32, math.MaxInt} {
		checkCrash(t, someDisk(), keep, kept)
	}
	checkCrash(t, someDisk(), 1, diskOf(20, fileOf(1, "abc", ""), fileOf(4, "fgh", ""), fileOf(9, "i", ""), fileOf(12, "", ""), fileOf(21, "mno", "")))
	checkCrash(t, someDisk(), 2, diskOf(20, fileOf(1, "abcd", ""), fileOf(4, "fgh", ""), fileOf(9, "ij", ""), fileOf(12, "", ""), fileOf(21, "mnop", "")))
	// The whole of two files, and a part of the third.
	checkCrash(t, someDisk(), 3, diskOf(20, fileOf(1, "abcde", ""), fileOf(4, "fgh", ""), fileOf(9, "ijk", ""), fileOf(12, "", ""), fileOf(21, "mnopq", "")))
	for _, keep := range keeps() {
		for _, d := range []impl.Disk{{}, diskOf(7), diskOf(60000), diskOf(0, fileOf(0, "", "")), diskOf(9, fileOf(0, "ab", ""), fileOf(21, "", ""))} {
			checkCrash(t, d, keep, d)
		}
	}
}

func TestP14CrashOfAllBytes(t *testing.T) {
	for keep := -2; keep < 300; keep++ {
		checkCrash(t, byteDisk(), keep, wantCrash(byteDisk(), keep))
		checkDiskRead(t, impl.DiskCrash(byteDisk(), keep), 0, allBytes()+allBytes()[:max(0, min(keep, 256))], true)
		checkTorn(t, byteDisk(), keep)
	}
}

func TestP14CrashByTheWords(t *testing.T) {
	for _, d := range slices.Concat(rightDisks(), smallDisks()) {
		for _, keep := range keeps() {
			checkCrash(t, d, keep, wantCrash(d, keep))
			if !diskRight(d) {
				continue
			}
			checkTorn(t, d, keep)
			// A second crash finds nothing late.
			once := impl.DiskCrash(d, keep)
			for _, again := range []int{-1, 0, 1, 60000} {
				checkCrash(t, once, again, once)
			}
		}
	}
	for _, d := range wrongDisks() {
		for _, keep := range keeps() {
			checkCrash(t, d, keep, impl.Disk{})
			if got := impl.DiskCrash(d, keep); got.Room != 0 || len(got.Files) != 0 {
				t.Errorf("DiskCrash(%s, %d) = %s", diskText(d), keep, diskText(got))
			}
		}
	}
}

// What is synced or cut ahead of a crash is there behind it, whatever is kept.
func TestP14SafeBehindACrash(t *testing.T) {
	for _, d := range []impl.Disk{someDisk(), byteDisk(), fullDisk()} {
		for _, f := range d.Files {
			whole := f.Safe + f.Late
			for _, keep := range []int{-1, 0, 1, 60000} {
				synced, _ := impl.DiskSync(d, f.Name)
				checkDiskRead(t, impl.DiskCrash(synced, keep), f.Name, whole, true)
				for n := 0; n <= len(whole); n += 1 + len(whole)/7 {
					cut, _ := impl.DiskCut(d, f.Name, n)
					checkDiskRead(t, impl.DiskCrash(cut, keep), f.Name, whole[:n], true)
				}
			}
		}
	}
}

// diceDiskCall is a call of few names and bytes, so that they meet; some of them are refused.
func diceDiskCall(d impl.Disk, roll func(n int) int) diskCall {
	name := roll(8)
	if roll(30) == 0 {
		name = []int{-1, 22, 21}[roll(3)]
	}
	whole, _ := wantDiskRead(d, name)
	switch roll(10) {
	case 0, 1, 2, 3:
		return appendCall(name, string(drawnBytes(roll(1000), roll(13))))
	case 4, 5:
		return syncCall(name)
	case 6:
		return cutCall(name, roll(len(whole)+3)-1)
	case 7, 8:
		return fileMoveCall(name, []int{roll(8), roll(8), 21, 22}[roll(4)])
	}
	return dropCall(name)
}

// A walk by all calls and crashes, beside which the bytes of each file stand on a shelf, with whether they are safe.
func TestP14Walk(t *testing.T) {
	codes, torn := [4]int{}, 0
	for seed := range 40 {
		roll := dice(seed)
		room := 10 + roll(70)
		d, s := diskOf(room), &shelf{}
		for range 250 {
			c := diceDiskCall(d, roll)
			checkDiskByWords(t, d, c)
			next, code := c.do(d)
			codes[code]++
			if code == impl.DiskDone {
				d = next
				s.do(c, room)
			}
			keep := roll(8) - 1
			checkTorn(t, d, keep)
			if roll(12) == 0 {
				torn++
				d = impl.DiskCrash(d, keep)
				s = shelfOf(wantCrash(s.disk(room), keep))
			}
			if !sameDisk(d, s.disk(room)) {
				t.Fatalf("seed %d: behind %v the disk is %s; want %s", seed, c, diskText(d), diskText(s.disk(room)))
			}
		}
	}
	if slices.Min(codes[:]) < 100 || torn < 500 {
		t.Error("the walk is too narrow", codes, torn)
	}
}

// oddDisks are disks of any numbers and lengths, most of them far from right.
func oddDisks() []impl.Disk {
	long := strings.Repeat("x", 70000)
	list := []impl.Disk{
		{Room: math.MaxInt, Files: make([]impl.File, 1000)}, {Room: 60000, Files: make([]impl.File, 100000)}, {Room: 60000, Files: make([]impl.File, 1)},
		diskOf(60000, fileOf(3, long, "")), diskOf(60000, fileOf(3, "", long)), diskOf(60000, fileOf(3, long, long), fileOf(4, long, long)),
		diskOf(60000, fileOf(3, long[:60000], long[:1])), diskOf(math.MinInt, fileOf(math.MinInt, long, long)), diskOf(math.MaxInt, fileOf(math.MaxInt, long, "")),
	}
	for _, x := range []int{math.MinInt, -1, 0, 1, 21, 22, 60000, 60001, 1 << 62, math.MaxInt} {
		for _, y := range []int{math.MinInt, -1, 0, 20, 21, 22, math.MaxInt} {
			list = append(list, diskOf(x, fileOf(y, "a", "b")), diskOf(60000, fileOf(x, "", ""), fileOf(y, "a", "b")), diskOf(9, fileOf(y, "", ""), fileOf(x, "", ""), fileOf(y, "", "")))
		}
	}
	return list
}

func TestP22DisksAnswerAtAnything(t *testing.T) {
	numbers := []int{math.MinInt, math.MinInt + 1, -1, 0, 1, 3, 20, 21, 22, 59999, 60000, 60001, 1 << 62, math.MaxInt}
	texts := []string{"", "x", "\x00\n\x80\xff", strings.Repeat("y", 59999), strings.Repeat("z", 60000), strings.Repeat("z", 60001)}
	for _, d := range slices.Concat(oddDisks(), wrongDisks(), rightDisks()) {
		checkDiskOk(t, d, diskRight(d))
		for _, name := range numbers {
			text, ok := wantDiskRead(d, name)
			checkDiskRead(t, d, name, text, ok)
			checkCrash(t, d, name, wantCrash(d, name))
			checkDiskByWords(t, d, syncCall(name))
			checkDiskByWords(t, d, dropCall(name))
			for _, n := range numbers {
				checkDiskByWords(t, d, cutCall(name, n))
				checkDiskByWords(t, d, fileMoveCall(name, n))
			}
			for _, text := range texts {
				checkDiskByWords(t, d, appendCall(name, text))
			}
		}
	}
}

// checkDiskWrites wants a call to leave the files and the room behind them alone, and its answer to share memory with neither.
func checkDiskWrites(t *testing.T, what any, given impl.Disk, call func(d impl.Disk) impl.Disk) {
	t.Helper()
	mark, later, own := fileOf(spareMark, "spare", "room"), fileOf(-5, "later", ""), fileOf(-6, "", "own")
	whole, files, room := roomy(given.Files, mark)
	next := call(impl.Disk{Room: given.Room, Files: files})
	if !slices.Equal(files, given.Files) || !allAre(room, mark) {
		t.Errorf("%v writes into %s or behind it: %s", what, diskText(given), diskText(diskOf(given.Room, whole...)))
	}
	// Whoever writes on into the files turns no answer, and the other way round.
	answer := cloneDisk(next)
	fill(whole, later)
	if !sameDisk(next, answer) {
		t.Errorf("%v of %s: the answer shares memory with the files", what, diskText(given))
	}
	fill(next.Files[:cap(next.Files)], own)
	if !allAre(whole, later) {
		t.Errorf("%v of %s: the files share memory with the answer", what, diskText(given))
	}
	if again := call(given); !sameDisk(again, answer) {
		t.Errorf("%v of %s tells %s at first and %s then", what, diskText(given), diskText(answer), diskText(again))
	}
}

func TestP22DisksWriteIntoNoFiles(t *testing.T) {
	for _, given := range slices.Concat(rightDisks(), wrongDisks(), oddDisks()[:12]) {
		for _, name := range []int{-1, 0, 1, 4, 7, 9, 10, 12, 21, 22} {
			for _, c := range diskCalls(name) {
				checkDiskWrites(t, c, given, func(d impl.Disk) impl.Disk {
					next, _ := c.do(d)
					return next
				})
			}
			checkDiskWrites(t, "DiskOk or DiskRead", given, func(d impl.Disk) impl.Disk {
				impl.DiskOk(d)
				impl.DiskRead(d, name)
				return impl.Disk{}
			})
		}
		for _, keep := range []int{-1, 0, 1, 3, 60000} {
			checkDiskWrites(t, "DiskCrash", given, func(d impl.Disk) impl.Disk { return impl.DiskCrash(d, keep) })
		}
	}
}

// Of one disk two answers share nothing.
func TestP22DisksAreNewEachTime(t *testing.T) {
	for _, d := range rightDisks() {
		for _, name := range []int{0, 1, 4, 7, 9, 21} {
			for _, c := range diskCalls(name) {
				first, _ := c.do(d)
				second, _ := c.do(d)
				fill(first.Files[:cap(first.Files)], fileOf(-6, "", "own"))
				if want, _ := c.want(d); !sameDisk(second, want) {
					t.Errorf("two answers of %v of %s share memory", c, diskText(d))
				}
			}
		}
	}
}
