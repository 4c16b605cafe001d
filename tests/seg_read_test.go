package tests

import (
	"math"
	"slices"
	"strings"
	"testing"

	"loop.example/g00110/impl"
)

func segRight(seg int) bool { return 0 <= seg && seg <= 19 }

// rowOf is the text of a segment with these records: their seals, one behind the other.
func rowOf(records ...string) string {
	row := strings.Builder{}
	for _, record := range records {
		row.Write(wantSeal([]byte(record)))
	}
	return row.String()
}

func wantSegRead(d impl.Disk, seg int) ([]string, int) {
	text, there := wantDiskRead(d, seg)
	records, size := []string{}, 0
	for there && segRight(seg) && len(records) < 6 {
		held, next, code := wantUnseal([]byte(text), size)
		if code != impl.SealWell {
			break
		}
		records, size = append(records, string(held)), next
	}
	return records, size
}

func checkSegRead(t *testing.T, d impl.Disk, seg int, want []string, wantSize int) {
	t.Helper()
	if got, size := impl.SegRead(d, seg); !slices.Equal(got, want) || size != wantSize {
		t.Errorf("SegRead(%s, %d) = %q, %d; want %q, %d", diskText(d), seg, got, size, want, wantSize)
	}
}

func checkNoRecord(t *testing.T, d impl.Disk, seg int) {
	t.Helper()
	checkSegRead(t, d, seg, nil, 0)
}

func checkSegReadByWords(t *testing.T, d impl.Disk, seg int) {
	t.Helper()
	want, size := wantSegRead(d, seg)
	checkSegRead(t, d, seg, want, size)
}

// checkRow lays a text into segments as what is safe, as what is late, and as both, and wants these records of each.
func checkRow(t *testing.T, text string, want ...string) {
	t.Helper()
	half := len(text) / 2
	for _, f := range []impl.File{fileOf(0, text, ""), fileOf(7, "", text), fileOf(19, text[:half], text[half:])} {
		checkSegRead(t, diskOf(60000, f), f.Name, want, len(rowOf(want...)))
		checkSegReadByWords(t, diskOf(60000, f), f.Name)
	}
}

// sixRecords are as many as a segment has; a torn one of them is never made whole by what is behind it.
func sixRecords() []string { return []string{"\x00\x01", "first", "", "custody", "\xff\x80\n", "end"} }

// longRecords have lengths of one byte and of two.
func longRecords() []string {
	return []string{string(drawnBytes(1, 127)), string(drawnBytes(2, 128)), "", string(drawnBytes(4, 129)), "x", string(drawnBytes(6, 300))}
}

// byteRecords have bytes of all values.
func byteRecords() []string {
	return []string{allBytes(), "\x00", "\xff\xff\xff\xff\xff", "\n\r\n", "\xe2\x82\xac", strings.Repeat("\x80", 20)}
}

func manyRows() [][]string {
	return [][]string{sixRecords(), longRecords(), byteRecords(), {"ab", "ab", "ab", "ab", "ab", "ab"}, {"a", "bc", "def", "ghij", "klmno", "pqrstuv"}}
}

// ableDisk has a segment of each kind, and the two files that are none, full of records, too.
func ableDisk() impl.Disk {
	whole := rowOf("ab", "c")
	return diskOf(400,
		fileOf(0, rowOf("zero"), ""), fileOf(1, "", whole), fileOf(3, whole[:4], whole[4:]), fileOf(4, whole+"\x05torn", ""),
		fileOf(5, whole, whole[:9]), fileOf(6, "", ""), fileOf(7, "no record", " at all"), fileOf(8, rowOf(sixRecords()...), rowOf("more")),
		fileOf(19, whole, rowOf("last")), fileOf(20, rowOf("no"), ""), fileOf(21, rowOf("none"), rowOf("too")),
	)
}

func TestP15Constants(t *testing.T) {
	if impl.MaxSeg != 20 || impl.InSeg != 6 {
		t.Error("limits", impl.MaxSeg, impl.InSeg)
	}
}

func TestP15ReadByHand(t *testing.T) {
	row := "\x02ab\xc5\x00\x27\x01" + "\x01c\x64\x00\x64\x00" + "\x00\x00\x00\x00\x00"
	d := diskOf(60, fileOf(2, row, ""), fileOf(9, row[:3], row[3:13]), fileOf(19, "", row[7:]), fileOf(20, row, ""))
	checkSegRead(t, d, 2, []string{"ab", "c", ""}, 18)
	checkSegRead(t, d, 9, []string{"ab", "c"}, 13)
	checkSegRead(t, d, 19, []string{"c", ""}, 11)
	for _, seg := range []int{-1, 0, 1, 3, 8, 10, 18, 20, 21, 22} {
		checkNoRecord(t, d, seg)
	}
}

func TestP15ReadOfEachKind(t *testing.T) {
	want := map[int][]string{
		0: {"zero"}, 1: {"ab", "c"}, 3: {"ab", "c"}, 4: {"ab", "c"}, 5: {"ab", "c", "ab"}, 8: sixRecords(), 19: {"ab", "c", "last"},
	}
	for seg := -3; seg < 30; seg++ {
		checkSegRead(t, ableDisk(), seg, want[seg], len(rowOf(want[seg]...)))
		checkSegReadByWords(t, ableDisk(), seg)
	}
}

// As many records as there are, up to six; those behind these are not told, nor their bytes.
func TestP15ReadAsManyAsThereMayBe(t *testing.T) {
	for _, records := range manyRows() {
		for n := range 7 {
			checkRow(t, rowOf(records[:n]...), records[:n]...)
		}
		for _, more := range [][]string{{""}, {"seventh"}, {"seventh", "eighth"}, records, {string(drawnBytes(9, 9000))}} {
			checkRow(t, rowOf(slices.Concat(records, more)...), records...)
		}
	}
	checkRow(t, "")
}

// Wherever what is late begins, the records are those of both together.
func TestP15ReadOfSafeAndLate(t *testing.T) {
	for _, records := range manyRows() {
		row := rowOf(records...)
		for n := range len(row) + 1 {
			d := diskOf(len(row), fileOf(11, row[:n], row[n:]))
			checkSegRead(t, d, 11, records, len(row))
			checkSegRead(t, impl.DiskCrash(d, len(row)), 11, records, len(row))
		}
	}
}

func TestP15ReadOfEmptyRecords(t *testing.T) {
	for zeros := range 50 {
		checkRow(t, strings.Repeat("\x00", zeros), make([]string, min(zeros/5, 6))...)
		checkRow(t, strings.Repeat("\x00", zeros)+"\x01", make([]string, min(zeros/5, 6))...)
	}
	checkRow(t, rowOf("", "a", "", "b"), "", "a", "", "b")
	checkRow(t, rowOf("", "", "", "", "", "", ""), "", "", "", "", "", "")
}

func TestP15ReadOfBytesOfAllValues(t *testing.T) {
	for first := 0; first < 256; first += 6 {
		records := []string{}
		for _, one := range []byte(allBytes())[first:min(first+6, 256)] {
			records = append(records, string([]byte{one}))
		}
		checkRow(t, rowOf(records...), records...)
	}
	checkRow(t, rowOf(allBytes(), allBytes()+allBytes()), allBytes(), allBytes()+allBytes())
	// A record may hold records.
	checkRow(t, rowOf(rowOf("a", "b"), rowOf()), rowOf("a", "b"), "")
}

func TestP15ReadOfTheLongestRecords(t *testing.T) {
	longest := string(drawnBytes(8, 9000))
	for n := range 7 {
		records := slices.Repeat([]string{longest}, n)
		checkRow(t, rowOf(records...), records...)
	}
	tooLong := string(wantSeal(drawnBytes(8, 9001)))
	checkRow(t, tooLong)
	checkRow(t, rowOf("a", longest)+tooLong+rowOf("b"), "a", longest)
	checkRow(t, rowOf(longest)[:9005])
	checkRow(t, rowOf("a", longest, "b")[:9011], "a")
}

// All names have a record of their own, but just the segments tell it.
func TestP15ReadAtEachSegment(t *testing.T) {
	d := diskOf(500)
	for name := range 22 {
		d.Files = append(d.Files, fileOf(name, rowOf(strings.Repeat("r", name)), ""))
	}
	for seg := range 20 {
		checkSegRead(t, d, seg, []string{strings.Repeat("r", seg)}, seg+5)
		gone := diskOf(500, without(d.Files, seg)...)
		checkNoRecord(t, gone, seg)
		checkSegRead(t, gone, (seg+1)%20, []string{strings.Repeat("r", (seg+1)%20)}, (seg+1)%20+5)
	}
	for _, seg := range []int{math.MinInt, -20, -2, -1, 20, 21, 22, 23, 40, 1 << 32, math.MaxInt} {
		checkNoRecord(t, d, seg)
		checkNoRecord(t, impl.Disk{}, seg)
	}
	for seg := range 20 {
		checkNoRecord(t, impl.Disk{}, seg)
		checkNoRecord(t, diskOf(60000), seg)
		checkNoRecord(t, diskOf(9, fileOf(seg, "", "")), seg)
	}
}

// wrongSegDisks have records in all segments, and are wrong by one thing each.
func wrongSegDisks() []impl.Disk {
	d := diskOf(0)
	for name := range 22 {
		d.Files = append(d.Files, fileOf(name, rowOf("r"), rowOf("s")))
		d.Room += 12
	}
	turned := cloneDisk(d)
	slices.Reverse(turned.Files)
	list := []impl.Disk{
		diskOf(d.Room-1, d.Files...), diskOf(-1, d.Files...), diskOf(60001, d.Files...), diskOf(math.MaxInt, d.Files...), turned,
		diskOf(60000, append(slices.Clone(d.Files), fileOf(22, "", ""))...), diskOf(60000, append([]impl.File{fileOf(-1, "", "")}, d.Files...)...),
	}
	for i := range d.Files {
		list = append(list, diskOf(60000, twice(d.Files, i)...))
	}
	return list
}

func TestP15ReadOfAWrongDisk(t *testing.T) {
	for _, d := range slices.Concat(wrongSegDisks(), wrongDisks()) {
		for seg := -1; seg <= 22; seg++ {
			checkNoRecord(t, d, seg)
		}
	}
}
