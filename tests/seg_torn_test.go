package tests

import (
	"slices"
	"strings"
	"testing"

	"loop.example/g00110/impl"
)

// A record that is torn at any of its bytes ends what is told, whatever is behind it.
func TestP15ReadOfATornRecord(t *testing.T) {
	for _, records := range manyRows() {
		for i, record := range records {
			torn, ahead, behind := rowOf(record), rowOf(records[:i]...), rowOf(records[i+1:]...)
			for n := 1; n < len(torn); n++ {
				checkRow(t, ahead+torn[:n], records[:i]...)
				checkRow(t, ahead+torn[:n]+behind, records[:i]...)
			}
			// Of one that is gone as a whole nothing is to be seen.
			checkRow(t, ahead+behind, without(records, i)...)
		}
	}
}

// What is left of a record behind its first bytes is no record, and a part of one is none either.
func TestP15ReadOfARecordWithoutItsBeginning(t *testing.T) {
	for _, records := range [][]string{sixRecords(), byteRecords()} {
		for i, record := range records {
			whole, ahead := rowOf(record), rowOf(records[:i]...)
			for n := 1; n < len(whole); n++ {
				text := ahead + whole[n:] + rowOf(records[i+1:]...)
				for _, d := range []impl.Disk{diskOf(2000, fileOf(3, text, "")), diskOf(2000, fileOf(3, "", text))} {
					checkSegReadByWords(t, d, 3)
					if told, size := impl.SegRead(d, 3); len(told) < i || !slices.Equal(told[:i], records[:i]) || size < len(ahead) {
						t.Errorf("without %d bytes of record %d: %q, %d", n, i, told, size)
					}
				}
			}
		}
	}
}

// A torn record is told by no crash, however much of it was kept, and the ones ahead of it by each.
func TestP15ReadBehindACrash(t *testing.T) {
	for _, records := range manyRows() {
		for i := range records {
			late := rowOf(records[i:]...)
			d := diskOf(3000, fileOf(19, rowOf(records[:i]...), late))
			for keep := -1; keep <= len(late)+1; keep++ {
				told := i
				for told < 6 && keep >= len(rowOf(records[i:told+1]...)) {
					told++
				}
				checkSegRead(t, impl.DiskCrash(d, keep), 19, records[:told], len(rowOf(records[:told]...)))
			}
		}
	}
}

// checkByteTurned wants what is ahead of a turned byte; the record that it is in is gone, if it is behind its length.
func checkByteTurned(t *testing.T, records []string, i int, place int, one byte) {
	t.Helper()
	row := []byte(rowOf(records...))
	at := len(rowOf(records[:i]...)) + place
	if row[at] == one {
		return
	}
	row[at] = one
	d := diskOf(5000, fileOf(14, string(row), ""))
	checkSegReadByWords(t, d, 14)
	if place >= len(wantForm(len(records[i]))) {
		checkSegRead(t, d, 14, records[:i], len(rowOf(records[:i]...)))
	}
	if told, _ := impl.SegRead(d, 14); len(told) < i || !slices.Equal(told[:i], records[:i]) {
		t.Errorf("byte %d of record %d turned to %d: %q", place, i, one, told)
	}
}

func TestP15ReadWithAByteTurned(t *testing.T) {
	for i, record := range sixRecords() {
		for place := range rowOf(record) {
			for one := range 256 {
				checkByteTurned(t, sixRecords(), i, place, byte(one))
			}
		}
	}
	for _, records := range manyRows() {
		for i, record := range records {
			row := rowOf(record)
			for place := range []byte(row) {
				for _, one := range []byte{0, 1, 127, 128, 255, row[place] + 1, row[place] - 1, row[place] ^ 128} {
					checkByteTurned(t, records, i, place, one)
				}
			}
		}
	}
}

// Bytes behind the last whole record are told neither as a record nor in how many bytes there are.
func TestP15ReadWithBytesBehind(t *testing.T) {
	behind := []string{"\x00", "\x00\x00\x00\x00", "\x01", "\x05torn", "\xff", "\x80\x00", "\xa9\x46" + strings.Repeat("\x00", 9005), "no record at all", "\x00\x00\x00\x00\x01", "\x01c\x64\x00\x64"}
	for _, length := range unreadLengths() {
		behind = append(behind, string(length), string(length)+rowOf("a", "b"))
	}
	for _, records := range manyRows() {
		for n := range 7 {
			for _, more := range behind {
				checkRow(t, rowOf(records[:n]...)+more, records[:n]...)
				checkRow(t, rowOf(records[:n]...)+more+rowOf("a"), records[:n]...)
			}
		}
	}
	for _, around := range aroundBytes() {
		for _, ahead := range []string{"", "a"} {
			checkSegReadByWords(t, diskOf(60, fileOf(5, ahead+string(around)+rowOf("b"), "")), 5)
			checkSegReadByWords(t, diskOf(60, fileOf(5, rowOf("b"), string(around)+ahead)), 5)
		}
	}
}

// Segments of few and drawn bytes, of which some begin with seals and most do not.
func TestP15ReadByTheWords(t *testing.T) {
	told := [7]int{}
	for seed := range 4000 {
		roll := dice(seed)
		row := []byte{}
		for range roll(9) {
			row = append(row, rowOf(string(drawnBytes(roll(50), roll(5))))...)
		}
		if roll(2) == 0 && len(row) > 0 {
			row[roll(len(row))] = byte(roll(256))
		}
		if roll(2) == 0 {
			row = row[:roll(len(row)+1)]
		}
		late := roll(len(row) + 1)
		d := diskOf(200, fileOf(0, string(row[:late]), string(row[late:])))
		checkSegReadByWords(t, d, 0)
		records, _ := impl.SegRead(d, 0)
		told[len(records)]++
	}
	if slices.Min(told[:]) < 100 {
		t.Error("the segments are too much alike", told)
	}
}

// A record of which the last byte is lost is told nevertheless, where the one behind it begins with just that byte.
func TestP15ReadOfARecordMadeWholeByTheNext(t *testing.T) {
	lost := func(record string) string { return rowOf(record)[:len(rowOf(record))-1] }
	checkRow(t, lost("")+rowOf(""), "")
	checkRow(t, lost("\x00\x01")+rowOf(""), "\x00\x01")
	checkRow(t, lost("klmno")+rowOf("pqrstu", "v"), "klmno")
	checkRow(t, lost("\x00\x01")+rowOf("a"))
	checkRow(t, lost("klmno")+rowOf("pqrst", "v"))
}
