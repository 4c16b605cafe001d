package tests

import (
	"fmt"
	"math"
	"slices"
	"strings"
	"testing"

	"loop.example/g00110/impl"
)

// diskCall is one of the calls that turn a disk; of append it has a text, of cut how many bytes, of move the other name.
type diskCall struct {
	what string
	name int
	n    int
	text string
}

func appendCall(name int, text string) diskCall {
	return diskCall{what: "append", name: name, text: text}
}
func syncCall(name int) diskCall             { return diskCall{what: "sync", name: name} }
func cutCall(name int, n int) diskCall       { return diskCall{what: "cut", name: name, n: n} }
func fileMoveCall(from int, to int) diskCall { return diskCall{what: "move", name: from, n: to} }
func dropCall(name int) diskCall             { return diskCall{what: "drop", name: name} }

func (c diskCall) String() string {
	return fmt.Sprintf("%s %d, %d, %s", c.what, c.name, c.n, short(c.text))
}

func (c diskCall) do(d impl.Disk) (impl.Disk, int) {
	switch c.what {
	case "append":
		return impl.DiskAppend(d, c.name, c.text)
	case "sync":
		return impl.DiskSync(d, c.name)
	case "cut":
		return impl.DiskCut(d, c.name, c.n)
	case "move":
		return impl.DiskMove(d, c.name, c.n)
	}
	return impl.DiskDrop(d, c.name)
}

// shelf is a disk in another form: for each name a board of its bytes, if there is one, each with whether it is safe.
type shelf [22][]shelved

type shelved struct {
	one  byte
	safe bool
}

func shelfOf(d impl.Disk) *shelf {
	s := &shelf{}
	for _, f := range d.Files {
		s[f.Name] = append(shelve(f.Safe, true), shelve(f.Late, false)...)
	}
	return s
}

func shelve(text string, safe bool) []shelved {
	board := []shelved{}
	for _, one := range []byte(text) {
		board = append(board, shelved{one, safe})
	}
	return board
}

func (s *shelf) disk(room int) impl.Disk {
	d := diskOf(room)
	for name, board := range s {
		if board == nil {
			continue
		}
		safe, late := []byte{}, []byte{}
		for _, b := range board {
			if b.safe {
				safe = append(safe, b.one)
			} else {
				late = append(late, b.one)
			}
		}
		d.Files = append(d.Files, fileOf(name, string(safe), string(late)))
	}
	return d
}

func (s *shelf) bytes() int { return len(slices.Concat(s[:]...)) }

func (s *shelf) do(c diskCall, room int) int {
	board := s[c.name]
	switch {
	case c.what == "append" && s.bytes()+len(c.text) > room:
		return impl.DiskFull
	case c.what == "append":
		// Also of nothing it is a board, where nil would be none.
		s[c.name] = append(append([]shelved{}, board...), shelve(c.text, false)...)
	case board == nil || c.what == "cut" && (c.n < 0 || c.n > len(board)):
		return impl.DiskNone
	case c.what == "sync":
		makeSafe(board)
	case c.what == "cut":
		s[c.name] = board[:c.n]
		makeSafe(board)
	case c.what == "move":
		s[c.n], s[c.name] = board, nil
	case c.what == "drop":
		s[c.name] = nil
	}
	return impl.DiskDone
}

func makeSafe(board []shelved) {
	for i := range board {
		board[i].safe = true
	}
}

func (c diskCall) asTold() bool {
	return nameRight(c.name) && (c.what != "move" || nameRight(c.n) && c.n != c.name)
}

func (c diskCall) want(d impl.Disk) (impl.Disk, int) {
	if !diskRight(d) || !c.asTold() {
		return impl.Disk{}, impl.DiskBad
	}
	s := shelfOf(d)
	if code := s.do(c, d.Room); code != impl.DiskDone {
		return d, code
	}
	return s.disk(d.Room), impl.DiskDone
}

// diskTurn is a call that turns a disk, beside what the words want of it.
type diskTurn interface {
	do(d impl.Disk) (impl.Disk, int)
	want(d impl.Disk) (impl.Disk, int)
}

// checkDisk wants one answer of a call, and, whatever it is, that the disk that is told is right.
func checkDisk(t *testing.T, d impl.Disk, c diskTurn, want impl.Disk, wantCode int) {
	t.Helper()
	got, code := c.do(d)
	if !sameDisk(got, want) || code != wantCode {
		t.Errorf("%v of %s = %s, %d; want %s, %d", c, diskText(d), diskText(got), code, diskText(want), wantCode)
	}
	if !impl.DiskOk(got) || !diskRight(got) || code == impl.DiskDone && got.Room != d.Room {
		t.Errorf("%v of %s is a wrong disk: %s", c, diskText(d), diskText(got))
	}
}

func checkDiskByWords(t *testing.T, d impl.Disk, c diskTurn) {
	t.Helper()
	want, code := c.want(d)
	checkDisk(t, d, c, want, code)
}

func checkDiskBad(t *testing.T, d impl.Disk, c diskTurn) {
	t.Helper()
	checkDisk(t, d, c, impl.Disk{}, impl.DiskBad)
	if got, _ := c.do(d); got.Room != 0 || len(got.Files) != 0 {
		t.Errorf("%v of %s: beside DiskBad stands %s", c, diskText(d), diskText(got))
	}
}

// turnedDisk is someDisk with other files, of a name or of several.
func turnedDisk(files ...impl.File) impl.Disk {
	d := someDisk()
	for _, f := range files {
		i, there := slices.BinarySearchFunc(d.Files, f.Name, func(g impl.File, name int) int { return g.Name - name })
		if there {
			d.Files[i] = f
		} else {
			d.Files = slices.Insert(d.Files, i, f)
		}
	}
	return d
}

func TestP14Append(t *testing.T) {
	done := map[diskCall]impl.Disk{
		// Safe stays, and the text stands behind Late.
		appendCall(1, "xyz"):  turnedDisk(fileOf(1, "ab", "cdexyz")),
		appendCall(4, "xyz"):  turnedDisk(fileOf(4, "fgh", "xyz")),
		appendCall(9, "xyz"):  turnedDisk(fileOf(9, "", "ijklxyz")),
		appendCall(12, "xyz"): turnedDisk(fileOf(12, "", "xyz")),
		appendCall(21, "x"):   turnedDisk(fileOf(21, "mn", "opqx")),
		// Made at its place: first, between two, ahead of the last.
		appendCall(0, "xyz"):  turnedDisk(fileOf(0, "", "xyz")),
		appendCall(2, "xy"):   turnedDisk(fileOf(2, "", "xy")),
		appendCall(8, "x"):    turnedDisk(fileOf(8, "", "x")),
		appendCall(20, "xyz"): turnedDisk(fileOf(20, "", "xyz")),
		// The empty text to a file that is there, and to one that is not.
		appendCall(1, ""):  someDisk(),
		appendCall(4, ""):  someDisk(),
		appendCall(12, ""): someDisk(),
		appendCall(21, ""): someDisk(),
		appendCall(0, ""):  turnedDisk(fileOf(0, "", "")),
		appendCall(10, ""): turnedDisk(fileOf(10, "", "")),
		appendCall(20, ""): turnedDisk(fileOf(20, "", "")),
	}
	for c, want := range done {
		checkDisk(t, someDisk(), c, want, impl.DiskDone)
	}
	checkDisk(t, diskOf(9), appendCall(5, "abc"), diskOf(9, fileOf(5, "", "abc")), impl.DiskDone)
	checkDisk(t, impl.Disk{}, appendCall(5, ""), diskOf(0, fileOf(5, "", "")), impl.DiskDone)
	checkDisk(t, diskOf(9, fileOf(3, "a", "b")), appendCall(21, "cd"), diskOf(9, fileOf(3, "a", "b"), fileOf(21, "", "cd")), impl.DiskDone)
	checkDisk(t, diskOf(9, fileOf(3, "a", "b")), appendCall(0, "cd"), diskOf(9, fileOf(0, "", "cd"), fileOf(3, "a", "b")), impl.DiskDone)
}

// All names become files, from either end on and from amid.
func TestP14AppendToEachName(t *testing.T) {
	for _, step := range []int{1, 21, 5, 13} {
		d := diskOf(44)
		for i := range 22 {
			c := appendCall(i*step%22, "ab")
			checkDiskByWords(t, d, c)
			d, _ = c.do(d)
			if len(d.Files) != i+1 {
				t.Errorf("%d files behind %d appends: %s", len(d.Files), i+1, diskText(d))
			}
		}
		for i, f := range d.Files {
			if f != fileOf(i, "", "ab") {
				t.Errorf("file %d of all is %v", i, f)
			}
		}
	}
}

func TestP14AppendFull(t *testing.T) {
	for _, name := range []int{0, 1, 4, 9, 10, 12, 20, 21} {
		checkDiskByWords(t, someDisk(), appendCall(name, "xyz"))
		if _, code := impl.DiskAppend(someDisk(), name, "xyz"); code != impl.DiskDone {
			t.Errorf("just as many bytes as there is room for, to %d: %d", name, code)
		}
		for _, n := range []int{4, 5, 20, 21, 60000, 60001, 1000000} {
			checkDisk(t, someDisk(), appendCall(name, strings.Repeat("x", n)), someDisk(), impl.DiskFull)
		}
	}
	for name := range 22 {
		checkDisk(t, fullDisk(), appendCall(name, ""), fullDisk(), impl.DiskDone)
		checkDisk(t, fullDisk(), appendCall(name, "x"), fullDisk(), impl.DiskFull)
		checkDisk(t, impl.Disk{}, appendCall(name, "x"), impl.Disk{}, impl.DiskFull)
		checkDisk(t, wideDisk(), appendCall(name, "x"), wideDisk(), impl.DiskFull)
		checkDisk(t, diskOf(0, fileOf(7, "", "")), appendCall(name, "x"), diskOf(0, fileOf(7, "", "")), impl.DiskFull)
	}
	most := strings.Repeat("x", 60000)
	checkDisk(t, diskOf(60000), appendCall(6, most), diskOf(60000, fileOf(6, "", most)), impl.DiskDone)
	checkDisk(t, diskOf(60000), appendCall(6, most+"x"), diskOf(60000), impl.DiskFull)
	checkDisk(t, diskOf(59999), appendCall(6, most), diskOf(59999), impl.DiskFull)
	checkDisk(t, diskOf(60000, fileOf(6, "a", "")), appendCall(6, most[1:]), diskOf(60000, fileOf(6, "a", most[1:])), impl.DiskDone)
	checkDisk(t, diskOf(60000, fileOf(6, "", "a")), appendCall(7, most), diskOf(60000, fileOf(6, "", "a")), impl.DiskFull)
}

func TestP14Sync(t *testing.T) {
	done := map[int]impl.Disk{
		1:  turnedDisk(fileOf(1, "abcde", "")),
		4:  someDisk(),
		9:  turnedDisk(fileOf(9, "ijkl", "")),
		12: someDisk(),
		21: turnedDisk(fileOf(21, "mnopq", "")),
	}
	for name := range 22 {
		if want, there := done[name]; there {
			checkDisk(t, someDisk(), syncCall(name), want, impl.DiskDone)
		} else {
			checkDisk(t, someDisk(), syncCall(name), someDisk(), impl.DiskNone)
		}
		checkDisk(t, diskOf(9), syncCall(name), diskOf(9), impl.DiskNone)
	}
	checkDisk(t, diskOf(7, fileOf(8, "abc", "defg")), syncCall(8), diskOf(7, fileOf(8, "abcdefg", "")), impl.DiskDone)
	want := byteDisk()
	want.Files[0] = fileOf(0, allBytes()+allBytes(), "")
	checkDisk(t, byteDisk(), syncCall(0), want, impl.DiskDone)
}

func TestP14Cut(t *testing.T) {
	// File 1 has the safe bytes ab, and behind them the late ones cde.
	for n, text := range []string{"", "a", "ab", "abc", "abcd", "abcde"} {
		checkDisk(t, someDisk(), cutCall(1, n), turnedDisk(fileOf(1, text, "")), impl.DiskDone)
	}
	for n, text := range []string{"", "f", "fg", "fgh"} {
		checkDisk(t, someDisk(), cutCall(4, n), turnedDisk(fileOf(4, text, "")), impl.DiskDone)
	}
	for n, text := range []string{"", "i", "ij", "ijk", "ijkl"} {
		checkDisk(t, someDisk(), cutCall(9, n), turnedDisk(fileOf(9, text, "")), impl.DiskDone)
	}
	checkDisk(t, someDisk(), cutCall(12, 0), someDisk(), impl.DiskDone)
	checkDisk(t, someDisk(), cutCall(21, 3), turnedDisk(fileOf(21, "mno", "")), impl.DiskDone)
	for name, size := range map[int]int{1: 5, 4: 3, 9: 4, 12: 0, 21: 5} {
		for _, n := range []int{math.MinInt, -60000, -5, -1, size + 1, size + 2, 20, 60000, 60001, 1 << 32, math.MaxInt} {
			checkDisk(t, someDisk(), cutCall(name, n), someDisk(), impl.DiskNone)
		}
	}
	for _, name := range []int{0, 2, 11, 20} {
		for _, n := range []int{-1, 0, 1} {
			checkDisk(t, someDisk(), cutCall(name, n), someDisk(), impl.DiskNone)
			checkDisk(t, diskOf(9), cutCall(name, n), diskOf(9), impl.DiskNone)
		}
	}
}

// A cut goes by bytes, wherever it falls.
func TestP14CutOfAllBytes(t *testing.T) {
	both := allBytes() + allBytes()
	for n := range 513 {
		want := byteDisk()
		want.Files[0] = fileOf(0, both[:n], "")
		checkDisk(t, byteDisk(), cutCall(0, n), want, impl.DiskDone)
	}
	for n := range 5 {
		want := byteDisk()
		want.Files[2] = fileOf(20, "\xe2\x82\xac\x00"[:n], "")
		checkDisk(t, byteDisk(), cutCall(20, n), want, impl.DiskDone)
	}
	for _, n := range []int{0, 1, 19999, 20000, 20001, 34999, 35000, 35001} {
		checkDiskByWords(t, wideDisk(), cutCall(3, n))
	}
}

// What is cut off makes room.
func TestP14CutAndDropMakeRoom(t *testing.T) {
	d := diskOf(5, fileOf(3, "ab", "cde"))
	checkDisk(t, d, appendCall(4, "x"), d, impl.DiskFull)
	cut, _ := impl.DiskCut(d, 3, 4)
	checkDisk(t, cut, appendCall(4, "x"), diskOf(5, fileOf(3, "abcd", ""), fileOf(4, "", "x")), impl.DiskDone)
	checkDisk(t, cut, appendCall(4, "xy"), diskOf(5, fileOf(3, "abcd", "")), impl.DiskFull)
	dropped, _ := impl.DiskDrop(d, 3)
	checkDisk(t, dropped, appendCall(3, "vwxyz"), diskOf(5, fileOf(3, "", "vwxyz")), impl.DiskDone)
	crashed := impl.DiskCrash(d, 1)
	checkDisk(t, crashed, appendCall(3, "xy"), diskOf(5, fileOf(3, "abc", "xy")), impl.DiskDone)
	moved, _ := impl.DiskMove(diskOf(5, fileOf(1, "a", "b"), fileOf(3, "c", "de")), 1, 3)
	checkDisk(t, moved, appendCall(1, "xyz"), diskOf(5, fileOf(1, "", "xyz"), fileOf(3, "a", "b")), impl.DiskDone)
	checkDisk(t, moved, appendCall(1, "wxyz"), diskOf(5, fileOf(3, "a", "b")), impl.DiskFull)
}
