package tests

import (
	"math"
	"slices"
	"testing"

	"loop.example/g00110/impl"
)

// checkReports wants all that can be told of books of few numbers.
func checkReports(t *testing.T, b impl.Books) {
	t.Helper()
	for no := range 9 {
		checkStatementByWords(t, b, no)
	}
	for instr := range 6 {
		checkTotalsByWords(t, b, instr)
	}
	for _, d := range b.Trades {
		checkChainByWords(t, b, d.No)
	}
}

// checkGainOfOpen: what each open trade gains, if it is settled, is what selling its pieces for its price would gain.
func checkGainOfOpen(t *testing.T, b impl.Books) int {
	t.Helper()
	settled := 0
	for _, no := range impl.TradesOpen(b, 1, impl.MaxNo) {
		d, _ := tradeIn(b.Trades, no)
		for _, way := range threeWays() {
			want, ok := impl.GainIf(b, d.Seller, d.Paper, d.Qty, d.Price, way)
			_, gain, code := impl.BookSettle(b, no, way)
			if code != impl.BkDone {
				continue
			}
			settled++
			if !ok || gain != want {
				t.Errorf("GainIf of trade %v in %v by way %d is %d, %v; it gains %d", d, b, way, want, ok, gain)
			}
		}
	}
	return settled
}

// Whatever is commanded from new books on, what is told of them is what the words ask for.
func TestP19Walks(t *testing.T) {
	settled, left, longest := 0, 0, 0
	for seed := range 40 {
		roll := dice(1900 + seed)
		b, next := startedBooks(), diceTradeCall
		if seed%2 == 1 {
			b, next = corpBooks(), diceCorpCall
		}
		for step := range 160 {
			if turned, _, code := next(b, roll).do(b); code == impl.BkDone {
				b = turned
			}
			if step%8 != 7 {
				continue
			}
			checkReports(t, b)
			settled += checkGainOfOpen(t, b)
			for _, l := range b.Lots {
				checkGainByWords(t, b, sale{l.Account, l.Instr, 1 + roll(l.Qty+3), roll(100), 1 + roll(3)})
			}
			lines, _ := impl.Statement(b, 2+roll(3))
			left += len(slices.DeleteFunc(lines, func(l impl.Line) bool { return l.Left == 0 }))
			for _, d := range b.Trades {
				chain, _ := impl.Chain(b, d.No)
				longest = max(longest, len(chain))
			}
		}
	}
	if settled < 200 || left < 100 || longest < 5 {
		t.Error("too few that were settled, too little that was left over, or no long chain", settled, left, longest)
	}
}

// A chain is made of settled trades alone, and ends with who bought last.
func TestP19ChainBehindSettling(t *testing.T) {
	b := dealBooks([8]int{1, 3, 2, 7, 4, 5, 60, 1}, [8]int{2, 6, 3, 7, 4, 6, 9, 1}, [8]int{3, 2, 6, 7, 3, 5, 10, 1}, [8]int{4, 3, 2, 7, 1, 5, 1, 1})
	for i, want := range [][]int{{2, 3}, {2, 3, 6}, {2, 3, 6, 2}} {
		no := 1 + i
		checkNoChain(t, b, no)
		done, _, code := impl.BookSettle(b, no, impl.First)
		if code != impl.BkDone {
			t.Fatal("trade", no, code)
		}
		b = done
		checkChain(t, b, 1, want, true)
	}
	gone, _ := impl.BookCancel(b, 4)
	checkChain(t, gone, 1, []int{2, 3, 6, 2}, true)
	checkNoChain(t, gone, 4)
	done, _, _ := impl.BookSettle(b, 4, impl.Last)
	checkChain(t, done, 1, []int{2, 3, 6, 2, 3}, true)
	checkChain(t, done, 3, []int{6, 2, 3}, true)
}

func TestP22ReportsAnswerAtAnyNumbers(t *testing.T) {
	odd := []int{math.MinInt, -top - 1, -1, 0, 1, 2, 3, 5, 7, 1000, 1001, top, top + 1, math.MaxInt}
	for _, b := range []impl.Books{{}, someBooks(), farBooks(), wrongBooks()[0], booksOfWrongBals()[0], booksOfMisfitTrades()[0]} {
		for _, x := range odd {
			checkStatementByWords(t, b, x)
			checkTotalsByWords(t, b, x)
			checkChainByWords(t, b, x)
			for _, y := range odd {
				for _, s := range []sale{{x, 7, y, 200, 1}, {2, x, 1, y, 2}, {2, 7, x, y, 3}, {3, 7, 1, x, y}, {x, y, 1, 0, 1}, {1, 1, x, top, y}} {
					want, wantOk := s.want(b)
					if gain, ok := s.gain(b); gain != want || ok != wantOk {
						t.Errorf("GainIf(%v, %v) = %d, %v; want %d, %v", b, s, gain, ok, want, wantOk)
					}
				}
			}
		}
	}
}

func reportMemoryBooks() []impl.Books {
	return slices.Concat(rightBooks(), wrongBooks(), []impl.Books{
		heldBooks(3, 9, 1, 5), heldBooks(top, 1), lotBooks(lotRows{{2, 7, 1, 10, 101}, {2, 7, 4, 3, 50}}),
		chainBooks(sold{{1, 1, 2, 7, 2}, {2, 2, 3, 7, 2}, {3, 3, 1, 7, 2}}), chainBooks(sold{{1, 1, 2, 7, 1}, {2, 2, 3, 7, 2}}),
	})
}

// reports are what a statement and a chain tell, and the numbers of the other two.
type reports struct {
	lines   []impl.Line
	chain   []int
	numbers [3]int
}

func reportsOf(b impl.Books, account int, instr int) reports {
	r := reports{}
	r.lines, _ = impl.Statement(b, account)
	r.chain, _ = impl.Chain(b, account)
	r.numbers[0], r.numbers[1], _ = impl.Totals(b, instr)
	r.numbers[2], _ = impl.GainIf(b, account, instr, 1+account, 100, 1+account%3)
	return r
}

func (r reports) clone() reports {
	return reports{slices.Clone(r.lines), slices.Clone(r.chain), r.numbers}
}

func (r reports) same(other reports) bool {
	return slices.Equal(r.lines, other.lines) && slices.Equal(r.chain, other.chain) && r.numbers == other.numbers
}

// fill writes one number all over what is told and the room behind it.
func (r reports) fill(x int) {
	fill(r.lines[:cap(r.lines)], impl.Line{Instr: x})
	fill(r.chain[:cap(r.chain)], x)
}

func TestP22ReportsWriteIntoNothing(t *testing.T) {
	for _, given := range reportMemoryBooks() {
		for _, no := range []int{1, 2, 3, 4, 7, 1000} {
			r := roomyBooks(given)
			told, other := reportsOf(r.books, no, 7), reportsOf(r.books, no, 7)
			if !r.kept(given) {
				t.Errorf("what is told of %d writes into %v: %v", no, given, r)
			}
			// Whoever writes on into the books, or into another answer, turns no answer, and the other way round.
			want := told.clone()
			other.fill(-6)
			fillBooks(r.books, -5)
			if !told.same(want) {
				t.Errorf("what is told of %d in %v shares memory: %v", no, given, told)
			}
			told.fill(-7)
			if !r.allAre(-5) {
				t.Errorf("%v shares memory with what is told of %d", given, no)
			}
			if again := reportsOf(given, no, 7); !again.same(want) {
				t.Errorf("%d in %v is told otherwise then: %v, %v", no, given, again, want)
			}
		}
	}
}
