package tests

import (
	"slices"
	"testing"

	"loop.example/g00110/impl"
)

// diceTradeCall is a call of trades, or of what they need, that books may do or refuse.
func diceTradeCall(b impl.Books, roll func(n int) int) bookCall {
	no := 1 + roll(40)
	if len(b.Trades) > 0 && roll(8) > 0 {
		no = b.Trades[roll(len(b.Trades))].No
	}
	switch roll(14) {
	case 0, 1:
		return diceCall(b, roll)
	case 2:
		return issueCall(1, 2+roll(3), 1, 1+roll(300), 0)
	case 3, 4:
		return issueCall(1, 2+roll(3), 2+roll(2), 1+roll(20), roll(100))
	case 5:
		return cancelCall(no)
	case 6, 7, 8, 9:
		return settleCall(no, roll(4)+roll(2))
	}
	if len(b.Lots) == 0 || roll(6) == 0 {
		return tradeCall(roll(42), 1+roll(5), 2+roll(4), 1+roll(4), roll(30), 1+roll(3), roll(60)-1)
	}
	// What a lot has and cost, or nearly so: some of these trades gain nothing and lose nothing.
	l := b.Lots[roll(len(b.Lots))]
	return tradeCall(1+roll(40), 2+roll(3), l.Account, l.Instr, l.Qty+roll(6)/4-roll(6)/4, 1, l.Cost+roll(20)/9*roll(30)-roll(20)/9*roll(30))
}

// Whatever is commanded from new books on, each answer is what the words ask for, and a trade is settled once at most.
func TestP7Walks(t *testing.T) {
	done := [3]int{}
	gained := [3]int{}
	for seed := range 150 {
		roll := dice(1000 + seed)
		b := startedBooks()
		settled := map[int]int{}
		for range 200 {
			c := diceTradeCall(b, roll)
			checkCallByWords(t, b, c)
			next, told, code := c.do(b)
			if c.what == "settle" {
				checkSettled(t, b, c)
			}
			if code != impl.BkDone {
				continue
			}
			b = next
			if place := slices.Index([]string{"trade", "cancel", "settle"}, c.what); place >= 0 {
				done[place]++
			}
			if c.what == "settle" {
				settled[c.args[0]]++
				gained[1+min(1, max(-1, told))]++
			}
		}
		for no, times := range settled {
			if d, _ := tradeIn(b.Trades, no); times != 1 || d.State != impl.TrDone {
				t.Errorf("trade %d was settled %d times: %v", no, times, d)
			}
		}
	}
	if slices.Min(done[:]) < 500 || slices.Min(gained[:]) < 50 {
		t.Error("too few of them were done, or at a loss, at neither or at a gain", done, gained)
	}
}

// Lots, balances and trades are all there can be: what is refused changes nothing, and nothing is lost on the way.
func TestP7WalkOfFullBooks(t *testing.T) {
	roll := dice(11)
	codes := map[int]int{}
	for range 12 {
		b := fullBooks()
		for i := range b.Trades {
			d := &b.Trades[i]
			*d = tradeOf([8]int{d.No, 1 + i%19, 1 + (i+1+roll(17))%19, 1 + roll(6), []int{1, 9, 10, 11}[roll(4)], 7 + roll(2), roll(12), impl.TrOpen})
			if d.Buyer == d.Seller {
				d.Buyer = 1 + d.Seller%19
			}
		}
		for range 60 {
			c := settleCall(10+roll(impl.MaxTrades), 1+roll(3))
			checkCallByWords(t, b, c)
			checkSettled(t, b, c)
			next, _, code := c.do(b)
			codes[code]++
			if code == impl.BkDone {
				b = next
			}
		}
		if pieces, _ := totals(b.Lots); pieces != 10*6*19 {
			t.Errorf("%d pieces are in lots", pieces)
		}
	}
	for _, code := range []int{impl.BkDone, impl.BkShort, impl.BkState, impl.BkFull} {
		if codes[code] < 5 {
			t.Error("too few of a code", codes)
		}
	}
}

func TestP22TradesAreToldWithoutWriting(t *testing.T) {
	for _, given := range append(rightBooks(), wrongBooks()...) {
		r := roomyBooks(given)
		d, ok := impl.TradeOf(r.books, 1)
		first, second := impl.TradesOpen(r.books, 1, 1000), impl.TradesOpen(r.books, 1, 1000)
		if !r.kept(given) {
			t.Errorf("telling trades writes into %v: %v", given, r)
		}
		want := slices.Clone(second)
		fill(first[:cap(first)], -6)
		fillBooks(r.books, -5)
		if !slices.Equal(second, want) {
			t.Errorf("the open trades of %v share memory: %v", given, second)
		}
		if wantTrade, found := tradeIn(given.Trades, 1); booksRight(given) && (d != wantTrade || ok != found) {
			t.Errorf("trade 1 of %v: %v, %v", given, d, ok)
		}
	}
}
