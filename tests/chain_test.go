package tests

import (
	"math"
	"slices"
	"testing"

	"loop.example/g00110/impl"
)

// sold are trades in short: number, seller, buyer, paper, state.
type sold [][5]int

// chainBooks have holders 1 to 8, papers 6 and 7, and these trades; nobody has anything any more.
func chainBooks(trades sold) impl.Books {
	b := impl.Books{Instrs: instrsOf(5, impl.Cash, 6, impl.Paper, 7, impl.Paper)}
	for no := 1; no <= 8; no++ {
		b.Accounts = append(b.Accounts, impl.Account{No: no, Kind: impl.Holder})
	}
	for i, row := range trades {
		b.Trades = append(b.Trades, tradeOf([8]int{row[0], row[2], row[1], row[3], 1 + i, 5, 10 * i, row[4]}))
	}
	return b
}

// wantChain looks for the next trade among all of them, each time.
func wantChain(b impl.Books, no int) ([]int, bool) {
	if d, found := tradeIn(b.Trades, no); !booksRight(b) || !found || d.State != impl.TrDone {
		return nil, false
	}
	at, _ := tradeIn(b.Trades, no)
	chain := []int{at.Seller, at.Buyer}
	for {
		least := impl.Trade{}
		for _, d := range b.Trades {
			if d.State == impl.TrDone && d.Paper == at.Paper && d.No > at.No && d.Seller == at.Buyer && (least.No == 0 || d.No < least.No) {
				least = d
			}
		}
		if least.No == 0 {
			return chain, true
		}
		chain, at = append(chain, least.Buyer), least
	}
}

func checkChain(t *testing.T, b impl.Books, no int, want []int, wantOk bool) {
	t.Helper()
	if chain, ok := impl.Chain(b, no); !slices.Equal(chain, want) || ok != wantOk {
		t.Errorf("Chain(%v, %d) = %v, %v; want %v, %v", b.Trades, no, chain, ok, want, wantOk)
	}
}

func checkNoChain(t *testing.T, b impl.Books, no int) {
	t.Helper()
	checkChain(t, b, no, nil, false)
}

func checkChainByWords(t *testing.T, b impl.Books, no int) {
	t.Helper()
	want, ok := wantChain(b, no)
	checkChain(t, b, no, want, ok)
}

func TestP19ChainOfOneTrade(t *testing.T) {
	for _, no := range []int{1, 2, 999, 1000} {
		for _, state := range []int{impl.TrOpen, impl.TrDone, impl.TrGone} {
			b := chainBooks(sold{{no, 3, 4, 7, state}})
			if state == impl.TrDone {
				checkChain(t, b, no, []int{3, 4}, true)
			} else {
				checkNoChain(t, b, no)
			}
			for _, other := range append(wrongNumbers(), no-1, no+1, 3, 4, 7, 500) {
				checkNoChain(t, b, other)
				checkNoChain(t, impl.BooksNew(), other)
			}
		}
	}
	checkNoChain(t, impl.BooksNew(), 1)
	checkChain(t, someBooks(), 3, []int{2, 3}, true)
	for _, no := range []int{1, 2, 4, 1000} {
		checkNoChain(t, someBooks(), no)
	}
	checkChain(t, farBooks(), 1000, []int{1, 1000}, true)
	checkNoChain(t, farBooks(), 1)
}

func TestP19Chains(t *testing.T) {
	done, open, gone := impl.TrDone, impl.TrOpen, impl.TrGone
	for _, c := range []struct {
		trades sold
		no     int
		want   []int
	}{
		// A chain of two trades, from the first one and from the second one; of three; with numbers far from each other.
		{sold{{1, 1, 2, 7, done}, {2, 2, 3, 7, done}}, 1, []int{1, 2, 3}},
		{sold{{1, 1, 2, 7, done}, {2, 2, 3, 7, done}}, 2, []int{2, 3}},
		{sold{{4, 5, 2, 7, done}, {9, 2, 8, 7, done}, {1000, 8, 1, 7, done}}, 4, []int{5, 2, 8, 1}},
		{sold{{4, 5, 2, 7, done}, {9, 2, 8, 7, done}, {1000, 8, 1, 7, done}}, 9, []int{2, 8, 1}},
		// A trade of another Paper, ahead of the one that goes on, or alone.
		{sold{{1, 1, 2, 7, done}, {2, 2, 3, 6, done}, {3, 2, 4, 7, done}, {4, 4, 5, 6, done}}, 1, []int{1, 2, 4}},
		{sold{{1, 1, 2, 7, done}, {2, 2, 3, 6, done}, {3, 3, 4, 6, done}}, 1, []int{1, 2}},
		{sold{{1, 1, 2, 7, done}, {2, 2, 3, 6, done}, {3, 3, 4, 6, done}}, 2, []int{2, 3, 4}},
		{sold{{1, 1, 2, 6, done}, {2, 2, 3, 6, done}, {3, 3, 4, 7, done}}, 1, []int{1, 2, 3}},
		// A trade with a lesser number, than the first one and than the last one of the chain.
		{sold{{1, 2, 3, 7, done}, {5, 1, 2, 7, done}}, 5, []int{1, 2}},
		{sold{{1, 2, 3, 7, done}, {5, 1, 2, 7, done}, {6, 2, 4, 7, done}}, 5, []int{1, 2, 4}},
		{sold{{1, 1, 2, 7, done}, {2, 3, 4, 7, done}, {3, 2, 3, 7, done}}, 1, []int{1, 2, 3}},
		{sold{{1, 1, 2, 7, done}, {2, 3, 4, 7, done}, {3, 2, 3, 7, done}, {4, 3, 5, 7, done}}, 1, []int{1, 2, 3, 5}},
		// Trades that are open or cancelled, ahead of the one that goes on, or alone.
		{sold{{1, 1, 2, 7, done}, {2, 2, 3, 7, open}}, 1, []int{1, 2}},
		{sold{{1, 1, 2, 7, done}, {2, 2, 3, 7, gone}}, 1, []int{1, 2}},
		{sold{{1, 1, 2, 7, done}, {2, 2, 3, 7, open}, {3, 2, 4, 7, gone}, {4, 2, 5, 7, done}, {5, 5, 1, 7, open}}, 1, []int{1, 2, 5}},
		// Trades by another Seller in between, and one that sells to the same Buyer, or that the chain's Seller sold.
		{sold{{1, 1, 2, 7, done}, {2, 4, 5, 7, done}, {3, 2, 3, 7, done}, {4, 5, 6, 7, done}, {5, 3, 4, 7, done}}, 1, []int{1, 2, 3, 4}},
		{sold{{1, 1, 2, 7, done}, {2, 4, 2, 7, done}, {3, 1, 3, 7, done}, {4, 2, 5, 7, done}}, 1, []int{1, 2, 5}},
		{sold{{1, 1, 2, 7, done}, {2, 1, 2, 7, done}, {3, 3, 1, 7, done}}, 1, []int{1, 2}},
		// Two trades of one Seller: the least greater number comes first, whatever comes of it.
		{sold{{1, 1, 2, 7, done}, {2, 2, 3, 7, done}, {3, 2, 4, 7, done}}, 1, []int{1, 2, 3}},
		{sold{{1, 1, 2, 7, done}, {2, 2, 3, 7, done}, {3, 2, 4, 7, done}, {4, 4, 5, 7, done}}, 1, []int{1, 2, 3}},
		{sold{{1, 1, 2, 7, done}, {2, 2, 3, 7, done}, {3, 2, 4, 7, done}, {4, 3, 5, 7, done}}, 1, []int{1, 2, 3, 5}},
		{sold{{2, 2, 6, 7, done}, {3, 1, 2, 7, done}, {8, 2, 4, 7, done}, {9, 2, 3, 7, done}, {10, 4, 3, 7, done}}, 3, []int{1, 2, 4, 3}},
	} {
		checkChain(t, chainBooks(c.trades), c.no, c.want, true)
		checkChainByWords(t, chainBooks(c.trades), c.no)
	}
}

// Each trade stands in a chain once, so that a circle is gone round only as long as numbers grow.
func TestP19ChainsInACircle(t *testing.T) {
	done := impl.TrDone
	for _, c := range []struct {
		trades sold
		no     int
		want   []int
	}{
		{sold{{1, 1, 2, 7, done}, {2, 2, 1, 7, done}}, 1, []int{1, 2, 1}},
		{sold{{1, 1, 2, 7, done}, {2, 2, 1, 7, done}}, 2, []int{2, 1}},
		{sold{{1, 1, 2, 7, done}, {2, 2, 1, 7, done}, {3, 1, 2, 7, done}, {4, 2, 1, 7, done}}, 1, []int{1, 2, 1, 2, 1}},
		{sold{{1, 1, 2, 7, done}, {2, 2, 3, 7, done}, {3, 3, 1, 7, done}}, 1, []int{1, 2, 3, 1}},
		{sold{{1, 1, 2, 7, done}, {2, 2, 3, 7, done}, {3, 3, 1, 7, done}}, 2, []int{2, 3, 1}},
		{sold{{1, 1, 2, 7, done}, {2, 2, 3, 7, done}, {3, 3, 1, 7, done}}, 3, []int{3, 1}},
		// The Seller is an earlier Buyer of the chain: it goes on with trades that have not been in it, or ends.
		{sold{{1, 1, 2, 7, done}, {2, 2, 3, 7, done}, {3, 3, 2, 7, done}, {4, 2, 5, 7, done}}, 1, []int{1, 2, 3, 2, 5}},
		{sold{{1, 1, 2, 7, done}, {2, 2, 3, 7, done}, {3, 3, 2, 7, done}}, 1, []int{1, 2, 3, 2}},
		{sold{{1, 1, 2, 7, done}, {2, 2, 3, 7, done}, {3, 2, 4, 7, done}, {5, 3, 2, 7, done}}, 1, []int{1, 2, 3, 2}},
		{sold{{1, 1, 2, 7, done}, {2, 2, 3, 7, done}, {5, 3, 2, 7, done}, {6, 2, 3, 6, done}, {7, 2, 1, 7, done}, {8, 1, 4, 7, done}}, 1, []int{1, 2, 3, 2, 1, 4}},
	} {
		checkChain(t, chainBooks(c.trades), c.no, c.want, true)
		checkChainByWords(t, chainBooks(c.trades), c.no)
	}
}

// As many trades as there can be, all in one chain: round among two, three and eight.
func TestP19ChainsOfAsManyAsThereCanBe(t *testing.T) {
	for round := 2; round <= 8; round++ {
		trades, accounts := sold{}, []int{1}
		for i := range impl.MaxTrades {
			trades = append(trades, [5]int{1 + 34*i, 1 + i%round, 1 + (i+1)%round, 6, impl.TrDone})
			accounts = append(accounts, 1+(i+1)%round)
		}
		b := chainBooks(trades)
		for i, d := range b.Trades {
			inTime(t, "a chain", func() { checkChain(t, b, d.No, accounts[i:], true) })
			// Without one of the trades between, the chain goes on where the same Seller sells next.
			checkChainByWords(t, inState(b, d.No, impl.TrGone), b.Trades[0].No)
			checkChainByWords(t, inState(b, d.No, impl.TrOpen), d.No)
		}
	}
	full := fullBooks()
	for _, no := range append(allNos(full), 9, 40) {
		checkChainByWords(t, full, no)
	}
}

// Three trades of three holders, two papers and any state, in each way that they can be.
func TestP19SmallChainsByTheWords(t *testing.T) {
	rows := [][4]int{}
	for _, of := range [][2]int{{1, 2}, {1, 3}, {2, 1}, {2, 3}, {3, 1}, {3, 2}} {
		rows = append(rows, [4]int{of[0], of[1], 7, impl.TrDone}, [4]int{of[0], of[1], 7, impl.TrOpen + len(rows)%2*2}, [4]int{of[0], of[1], 6, impl.TrDone})
	}
	for _, x := range rows {
		for _, y := range rows {
			for _, z := range rows {
				b := chainBooks(sold{{2, x[0], x[1], x[2], x[3]}, {3, y[0], y[1], y[2], y[3]}, {7, z[0], z[1], z[2], z[3]}})
				checkChainByWords(t, b, 2)
				checkChainByWords(t, b, 3)
			}
		}
	}
}

func TestP19DrawnChainsByTheWords(t *testing.T) {
	longest := 0
	for seed := range 300 {
		roll := dice(19000 + seed)
		trades, no := sold{}, 0
		for range roll(impl.MaxTrades + 1) {
			no += 1 + roll(30)
			seller := 1 + roll(4)
			trades = append(trades, [5]int{no, seller, 1 + (seller+roll(3))%4, 7 - roll(8)/7, []int{2, 2, 2, 2, 1, 3}[roll(6)]})
		}
		b := chainBooks(trades)
		for _, no := range append(allNos(b), no+1, 0) {
			checkChainByWords(t, b, no)
			chain, _ := impl.Chain(b, no)
			longest = max(longest, len(chain))
		}
	}
	if longest < 8 {
		t.Error("no long chain was drawn", longest)
	}
}

func TestP19ChainOfWrongBooks(t *testing.T) {
	for _, b := range slices.Concat(wrongBooks(), wrongBooksByHand()) {
		for _, no := range append(allNos(b)[:min(3, len(b.Trades))], 3, 5, -1) {
			checkNoChain(t, b, no)
		}
	}
	// Trades that are none go round for ever, or sell to themselves.
	for _, trades := range []sold{
		{{1, 1, 2, 7, 2}, {1, 2, 1, 7, 2}}, {{1, 1, 2, 7, 2}, {2, 2, 1, 7, 2}, {1, 1, 2, 7, 2}}, {{1, 1, 1, 7, 2}}, {{1, 1, 2, 7, 2}, {2, 2, 2, 7, 2}},
		{{1, 1, 2, 5, 2}}, {{1, 1, 9, 7, 2}}, {{1, 9, 1, 7, 2}}, {{0, 1, 2, 7, 2}, {1, 1, 2, 7, 2}},
	} {
		checkNoChain(t, chainBooks(trades), 1)
		checkNoChain(t, chainBooks(trades), 2)
	}
}

func TestP19ChainByTheWords(t *testing.T) {
	for _, b := range slices.Concat(rightBooks(), oddBooks(), booksOfMisfitTrades()) {
		for _, no := range []int{math.MinInt, -1, 0, 1, 2, 3, 4, 5, 10, 11, 12, 13, 28, 30, 999, 1000, 1001, top, math.MaxInt} {
			checkChainByWords(t, b, no)
		}
	}
}
