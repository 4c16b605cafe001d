package tests

import (
	"fmt"
	"math"
	"slices"
	"strings"
	"testing"

	"loop.example/g00110/impl"
)

func TestP22SegmentsAnswerAtAnything(t *testing.T) {
	segs := []int{math.MinInt, math.MinInt + 1, -1, 0, 1, 3, 19, 20, 21, 22, 1 << 62, math.MaxInt}
	texts := []string{"", "x", "\x00\n\x80\xff", strings.Repeat("y", 9000), strings.Repeat("z", 9001), strings.Repeat("z", 70000)}
	for _, d := range slices.Concat(oddDisks(), wrongDisks(), rightDisks()[:12], []impl.Disk{ableDisk()}) {
		for _, seg := range segs {
			checkSegReadByWords(t, d, seg)
			checkSegsFrom(t, d, seg, wantSegsFrom(d, seg)...)
			checkDiskByWords(t, d, segMendCall(seg))
			for _, text := range texts {
				for _, c := range bothCalls(seg, text) {
					checkDiskByWords(t, d, c)
				}
			}
			keep := []int{seg, 3, seg}
			checkSegsClear(t, d, keep, wantSegsClear(d, keep))
		}
		checkSegsClear(t, d, repeated(100000, 3), impl.Disk{})
	}
}

// segCalls are calls of all kinds of one segment, such that are done, and such that are refused.
func segCalls(seg int) []segCall {
	return []segCall{
		segAddCall(seg, ""), segAddCall(seg, "xy"), segAddCall(seg, strings.Repeat("x", 9000)), segAddCall(seg, strings.Repeat("x", 9001)),
		segLateCall(seg, ""), segLateCall(seg, "xy"), segLateCall(seg, strings.Repeat("x", 9000)), segLateCall(seg, strings.Repeat("x", 9001)),
		segMendCall(seg),
	}
}

func TestP22SegmentsWriteIntoNoFiles(t *testing.T) {
	for _, given := range slices.Concat(rightDisks(), wrongDisks(), wrongSegDisks()[:8], []impl.Disk{ableDisk()}) {
		for _, seg := range []int{-1, 0, 1, 4, 5, 7, 12, 19, 20, 22} {
			for _, c := range segCalls(seg) {
				checkDiskWrites(t, c, given, func(d impl.Disk) impl.Disk {
					next, _ := c.do(d)
					return next
				})
			}
			checkDiskWrites(t, "SegRead or SegsFrom", given, func(d impl.Disk) impl.Disk {
				impl.SegRead(d, seg)
				impl.SegsFrom(d, seg)
				return impl.Disk{}
			})
		}
		for _, keep := range keepLists() {
			checkDiskWrites(t, fmt.Sprint("SegsClear ", len(keep)), given, func(d impl.Disk) impl.Disk { return impl.SegsClear(d, keep) })
		}
	}
}

// The numbers to keep, and the room behind them, stay as they are, also where they are refused.
func TestP22ClearWritesIntoNoNumbers(t *testing.T) {
	for _, d := range []impl.Disk{{}, ableDisk(), fullDisk(), wrongDisks()[0], wrongSegDisks()[4]} {
		for _, given := range keepLists() {
			keep, room := withRoom(given)
			next := impl.SegsClear(d, keep)
			if !slices.Equal(keep, given) || !allAre(room, spareMark) {
				t.Errorf("SegsClear(%s, %v) writes into it or behind it: %v, %v", diskText(d), given, keep, room)
			}
			fill(keep, 7)
			if want := wantSegsClear(d, given); !sameDisk(next, want) {
				t.Errorf("SegsClear(%s, %v) turns with its numbers: %s", diskText(d), given, diskText(next))
			}
		}
	}
}

// checkNewLists wants two answers that share no memory.
func checkNewLists[R comparable](t *testing.T, what string, call func() []R, own R) {
	t.Helper()
	first, second := call(), call()
	kept := slices.Clone(second)
	fill(first[:cap(first)], own)
	if !slices.Equal(second, kept) || !slices.Equal(call(), kept) {
		t.Errorf("two answers of %s share memory", what)
	}
}

func TestP22SegmentsAreNewEachTime(t *testing.T) {
	for _, d := range slices.Concat(rightDisks(), wrongDisks(), []impl.Disk{ableDisk()}) {
		for _, seg := range []int{-1, 0, 1, 3, 5, 8, 19, 20} {
			for _, c := range segCalls(seg) {
				checkNewLists(t, c.String(), func() []impl.File {
					next, _ := c.do(d)
					return next.Files
				}, fileOf(-6, "", "own"))
			}
			checkNewLists(t, "SegsClear", func() []impl.File { return impl.SegsClear(d, []int{seg}).Files }, fileOf(-6, "", "own"))
			checkNewLists(t, "SegsFrom", func() []int { return impl.SegsFrom(d, seg) }, -7)
			checkNewLists(t, "SegRead", func() []string {
				records, _ := impl.SegRead(d, seg)
				return records
			}, "own")
		}
	}
}
