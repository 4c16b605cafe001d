package tests

import (
	"math"
	"slices"
	"testing"

	"loop.example/g00110/impl"
)

// chartOf are accounts in short: number and kind by turns.
func chartOf(pairs ...int) []impl.Account {
	list := []impl.Account{}
	for i := 0; i < len(pairs); i += 2 {
		list = append(list, impl.Account{No: pairs[i], Kind: pairs[i+1]})
	}
	return list
}

// instrsOf are instruments in short: number and kind by turns.
func instrsOf(pairs ...int) []impl.Instr {
	list := []impl.Instr{}
	for i := 0; i < len(pairs); i += 2 {
		list = append(list, impl.Instr{No: pairs[i], Kind: pairs[i+1]})
	}
	return list
}

// tradeRows are trades in short: number, buyer, seller, paper, pieces, cash, price, state.
type tradeRows [][8]int

func (r tradeRows) trades() []impl.Trade {
	list := []impl.Trade{}
	for _, row := range r {
		list = append(list, tradeOf(row))
	}
	return list
}

func tradeOf(row [8]int) impl.Trade {
	return impl.Trade{No: row[0], Buyer: row[1], Seller: row[2], Paper: row[3], Qty: row[4], Cash: row[5], Price: row[6], State: row[7]}
}

// manyTrades are n trades that are right, and fit the books of someBooks.
func manyTrades(n int) []impl.Trade {
	list := make([]impl.Trade, n)
	for i := range list {
		list[i] = tradeOf([8]int{1 + 3*i, 2, 3, 7, 1 + i, 5, 10 * i, 1 + i%3})
	}
	return list
}

// someBooks have accounts of each kind, two of each kind of instrument, lots, and trades in each state.
func someBooks() impl.Books {
	return impl.Books{
		Accounts: chartOf(1, impl.Issuer, 2, impl.Holder, 3, impl.Holder, 4, impl.Dealer, 5, impl.Rounder, 6, impl.Holder, 8, impl.Issuer),
		Instrs:   instrsOf(5, impl.Cash, 6, impl.Cash, 7, impl.Paper, 9, impl.Paper),
		Bals: rows{{1, 5, -500}, {1, 7, -27}, {1, 9, -4}, {2, 5, 300}, {2, 7, 20}, {2, 9, 4}, {3, 5, 150}, {3, 7, 5},
			{4, 5, 50}, {4, 6, -30}, {4, 7, 2}, {6, 6, 30}}.bals(),
		Lots: lotRows{{2, 7, 1, 10, 101}, {2, 7, 4, 3, 50}, {2, 7, 9, 7, 20}, {2, 9, 2, 4, 0}, {3, 7, 3, 5, 60}}.lots(),
		Trades: tradeRows{{1, 2, 3, 7, 5, 5, 60, impl.TrOpen}, {3, 3, 2, 9, 1, 6, 0, impl.TrDone},
			{1000, 6, 2, 7, top, 5, top, impl.TrGone}}.trades(),
		Lot: 9,
	}
}

// farBooks have numbers and amounts at the edges: holders 1 and 1000 have all that can be, issuers lack all of it.
func farBooks() impl.Books {
	return impl.Books{
		Accounts: chartOf(1, impl.Holder, 2, impl.Issuer, 3, impl.Issuer, 4, impl.Holder, 1000, impl.Holder),
		Instrs:   instrsOf(1, impl.Paper, 1000, impl.Cash),
		Bals: rows{{1, 1, top}, {1, 1000, 1}, {2, 1, -top}, {2, 1000, -top}, {3, 1, -top}, {3, 1000, -1},
			{4, 1, top - 1}, {1000, 1, 1}, {1000, 1000, top}}.bals(),
		Lots:   lotRows{{1, 1, 1, top, top}, {4, 1, 7, top - 2, top - 3}, {4, 1, 8, 1, 2}, {1000, 1, lastNo - 2, 1, top}}.lots(),
		Trades: tradeRows{{1, 1, 1000, 1, 1, 1000, 0, impl.TrOpen}, {1000, 1000, 1, 1, top, 1000, top, impl.TrDone}}.trades(),
		Lot:    lastNo - 2,
	}
}

// fullBooks have as many accounts, instruments, balances, lots and trades as there can be: the last account of 20 lacks what the holders have.
func fullBooks() impl.Books {
	b := impl.Books{Lot: impl.MaxLots}
	for no := 1; no <= impl.MaxAccounts; no++ {
		b.Accounts = append(b.Accounts, impl.Account{No: no, Kind: impl.Holder})
	}
	b.Accounts[impl.MaxAccounts-1].Kind = impl.Issuer
	for no := 1; no <= impl.MaxInstrs; no++ {
		b.Instrs = append(b.Instrs, impl.Instr{No: no, Kind: impl.Cash})
	}
	for no := 1; no <= 6; no++ {
		b.Instrs[no-1].Kind = impl.Paper
	}
	for account := 1; account < impl.MaxAccounts; account++ {
		for instr := 1; instr <= impl.MaxInstrs; instr++ {
			b.Bals = append(b.Bals, impl.Bal{Account: account, Instr: instr, Amount: 10})
			if instr <= 6 {
				b.Lots = append(b.Lots, impl.Lot{Account: account, Instr: instr, No: len(b.Lots) + 1, Qty: 10, Cost: account})
			}
		}
	}
	for instr := 1; instr <= impl.MaxInstrs; instr++ {
		b.Bals = append(b.Bals, impl.Bal{Account: impl.MaxAccounts, Instr: instr, Amount: -10 * (impl.MaxAccounts - 1)})
	}
	return withLotsCut(b, impl.MaxLots)
}

// withLotsCut cuts one piece off the first lots, each for a lot of its own, until there are n lots.
func withLotsCut(b impl.Books, n int) impl.Books {
	lots := []impl.Lot{}
	more := n - len(b.Lots)
	for i, l := range b.Lots {
		if i >= more {
			lots = append(lots, l)
			continue
		}
		cut := l
		l.Qty, cut.Qty, cut.Cost, cut.No = l.Qty-1, 1, 0, 115+i
		lots = append(lots, l, cut)
	}
	b.Lots, b.Lot, b.Trades = lots, 1000, manyFullTrades()
	return b
}

func manyFullTrades() []impl.Trade {
	list := make([]impl.Trade, impl.MaxTrades)
	for i := range list {
		list[i] = tradeOf([8]int{10 + i, 1 + i%3, 4 + i%5, 1 + i%6, 7, 7 + i%2, 9, 1 + i%3})
	}
	return list
}

// rightBooks are right, from nothing at all to as much as there can be.
func rightBooks() []impl.Books {
	holders := impl.Books{Accounts: chartOf(1, impl.Holder, impl.MaxNo, impl.Holder), Instrs: instrsOf(1, impl.Paper, impl.MaxNo, impl.Cash)}
	noPaper := someBooks()
	noPaper.Lots, noPaper.Trades = nil, nil
	noPaper.Bals = slices.DeleteFunc(noPaper.Bals, func(b impl.Bal) bool { return b.Instr == 7 || b.Instr == 9 })
	noLots := noPaper
	// Who is no holder has no lots, whatever it has of a paper.
	noLots.Bals = rows{{1, 7, 12}, {4, 7, -20}, {5, 7, 15}, {8, 7, -7}}.bals()
	lastLot, trades := someBooks(), someBooks()
	lastLot.Lot = lastNo
	trades.Trades = manyTrades(impl.MaxTrades)
	return []impl.Books{
		{}, {Lot: 1}, {Lot: lastNo}, {Accounts: accountFace().ascending(20, 1, 1)}, {Instrs: instrFace().ascending(8, 1, 1)},
		holders, noPaper, noLots, lastLot, trades, someBooks(), farBooks(), fullBooks(),
	}
}

// sameBooks says whether all is alike.
func sameBooks(a impl.Books, b impl.Books) bool {
	return slices.Equal(a.Accounts, b.Accounts) && slices.Equal(a.Instrs, b.Instrs) && slices.Equal(a.Bals, b.Bals) &&
		slices.Equal(a.Lots, b.Lots) && slices.Equal(a.Trades, b.Trades) && a.Lot == b.Lot
}

// tradesRight says by the words whether trades are right.
func tradesRight(list []impl.Trade) bool {
	for i, d := range list {
		for _, no := range []int{d.No, d.Buyer, d.Seller, d.Paper, d.Cash} {
			if !inNumbers(no) {
				return false
			}
		}
		if d.Buyer == d.Seller || d.Qty < 1 || d.Price < 0 || !bothAmounts(d.Qty, d.Price) {
			return false
		}
		if d.State != 1 && d.State != 2 && d.State != 3 || i > 0 && d.No <= list[i-1].No {
			return false
		}
	}
	return len(list) <= 30
}

// booksRight says by the words whether books are right.
func booksRight(b impl.Books) bool {
	lists := accountFace().rightList(b.Accounts) && instrFace().rightList(b.Instrs) && balsRight(b.Bals) && lotsRight(b.Lots) && tradesRight(b.Trades)
	return lists && 0 <= b.Lot && b.Lot <= 1000000000 && balsFit(b) && lotsFit(b) && tradesFit(b)
}

func balsFit(b impl.Books) bool {
	for _, bal := range b.Bals {
		kind := kindIn(b.Accounts, bal.Account)
		if kind == 0 || kindIn(b.Instrs, bal.Instr) == 0 || kind == impl.Holder && bal.Amount < 0 {
			return false
		}
		if sum, ok := wantBalsSum(b.Bals, bal.Instr); !ok || sum != 0 {
			return false
		}
	}
	return true
}

func lotsFit(b impl.Books) bool {
	for _, l := range b.Lots {
		if kindIn(b.Accounts, l.Account) != impl.Holder || kindIn(b.Instrs, l.Instr) != impl.Paper || l.No > b.Lot {
			return false
		}
	}
	for _, a := range b.Accounts {
		for _, i := range b.Instrs {
			qty, _ := totals(ownLots(b.Lots, a.No, i.No))
			if a.Kind == impl.Holder && i.Kind == impl.Paper && qty != amountIn(b.Bals, a.No, i.No) {
				return false
			}
		}
	}
	return true
}

func tradesFit(b impl.Books) bool {
	for _, d := range b.Trades {
		if kindIn(b.Accounts, d.Buyer) != impl.Holder || kindIn(b.Accounts, d.Seller) != impl.Holder {
			return false
		}
		if kindIn(b.Instrs, d.Paper) != impl.Paper || kindIn(b.Instrs, d.Cash) != impl.Cash {
			return false
		}
	}
	return true
}

func TestP6Constants(t *testing.T) {
	if impl.MaxTrades != 30 || impl.MaxLotNo != 1000000000 {
		t.Error("limits", impl.MaxTrades, impl.MaxLotNo)
	}
	if impl.TrOpen != 1 || impl.TrDone != 2 || impl.TrGone != 3 {
		t.Error("states", impl.TrOpen, impl.TrDone, impl.TrGone)
	}
	codes := []int{impl.BkDone, impl.BkBad, impl.BkKnown, impl.BkNone, impl.BkKind, impl.BkShort, impl.BkState, impl.BkFull, impl.BkLarge}
	if !slices.Equal(codes, []int{0, 1, 2, 3, 4, 5, 6, 7, 8}) {
		t.Error("codes", codes)
	}
}

func TestP6BooksNew(t *testing.T) {
	b := impl.BooksNew()
	if !sameBooks(b, impl.Books{}) || !impl.BooksOk(b) {
		t.Error("new books", b)
	}
}

// rightTrades are right by themselves, whether or not books have what they name.
func rightTrades() [][]impl.Trade {
	return [][]impl.Trade{
		nil,
		{},
		tradeRows{{1, 1, 2, 3, 1, 4, 0, 1}}.trades(),
		tradeRows{{1000, 1000, 1, 1, top, 1000, top, 3}}.trades(),
		tradeRows{{1, 1, 1000, 1000, top, 1, 0, 2}}.trades(),
		tradeRows{{7, 2, 1, 5, 1, 5, 1, 2}}.trades(),
		tradeRows{{1, 2, 3, 4, 1, 5, 1, 1}, {2, 2, 3, 4, 1, 5, 1, 1}, {9, 3, 2, 4, 1, 5, 1, 3}}.trades(),
		tradeRows{{999, 2, 3, 4, 1, 5, 1, 1}, {1000, 2, 3, 4, 1, 5, 1, 1}}.trades(),
		someBooks().Trades,
		farBooks().Trades,
		fullBooks().Trades,
		manyTrades(impl.MaxTrades - 1),
		manyTrades(impl.MaxTrades),
	}
}

// wrongTrade are trades that break one rule each of a trade alone; all that a right one names is in someBooks.
func wrongTrade() []impl.Trade {
	right := [8]int{5, 2, 3, 7, 4, 5, 60, 1}
	list := []impl.Trade{{}, tradeOf([8]int{5, 2, 2, 7, 4, 5, 60, 1}), tradeOf([8]int{5, 3, 3, 7, 4, 5, 60, 1})}
	with := func(field int, values []int) {
		for _, x := range values {
			row := right
			row[field] = x
			list = append(list, tradeOf(row))
		}
	}
	for _, field := range []int{0, 1, 2, 3, 5} {
		with(field, wrongNumbers())
	}
	with(4, append(wrongAmounts(), 0, -1, -top))
	with(6, append(wrongAmounts(), -1, -top))
	with(7, []int{0, 4, -1, 5, 100, math.MaxInt, math.MinInt})
	return list
}

// wrongTrades break one rule each; all that they name is in someBooks, but for what is wrong.
func wrongTrades() [][]impl.Trade {
	lists := [][]impl.Trade{
		tradeRows{{2, 2, 3, 7, 1, 5, 1, 1}, {1, 2, 3, 7, 1, 5, 1, 1}}.trades(),
		tradeRows{{2, 2, 3, 7, 1, 5, 1, 1}, {2, 2, 3, 7, 1, 5, 1, 1}}.trades(),
		tradeRows{{2, 2, 3, 7, 1, 5, 1, 1}, {2, 3, 2, 9, 4, 6, 8, 3}}.trades(),
		tradeRows{{1, 2, 3, 7, 1, 5, 1, 1}, {5, 2, 3, 7, 1, 5, 1, 1}, {4, 2, 3, 7, 1, 5, 1, 1}}.trades(),
		tradeRows{{1, 2, 3, 7, 1, 5, 1, 1}, {5, 2, 3, 7, 1, 5, 1, 1}, {1, 2, 3, 7, 1, 5, 1, 1}}.trades(),
		manyTrades(impl.MaxTrades + 1),
		manyTrades(impl.MaxTrades + 2),
		manyTrades(300),
		append(manyTrades(impl.MaxTrades), impl.Trade{}),
	}
	for _, wrong := range wrongTrade() {
		lists = append(lists,
			[]impl.Trade{wrong},
			slices.Concat([]impl.Trade{wrong}, tradeRows{{9, 2, 3, 7, 1, 5, 1, 1}}.trades()),
			slices.Concat(tradeRows{{1, 2, 3, 7, 1, 5, 1, 1}}.trades(), []impl.Trade{wrong}, tradeRows{{9, 2, 3, 7, 1, 5, 1, 1}}.trades()),
			slices.Concat(tradeRows{{1, 2, 3, 7, 1, 5, 1, 1}, {2, 2, 3, 7, 1, 5, 1, 1}}.trades(), []impl.Trade{wrong}))
	}
	return lists
}

func TestP6TradesOk(t *testing.T) {
	for _, list := range rightTrades() {
		if !impl.TradesOk(list) || !tradesRight(list) {
			t.Errorf("%v is not right", list)
		}
	}
	for _, list := range wrongTrades() {
		if impl.TradesOk(list) || tradesRight(list) {
			t.Errorf("%v is right", list)
		}
	}
	for n := range impl.MaxTrades + 4 {
		if impl.TradesOk(manyTrades(n)) != (n <= impl.MaxTrades) {
			t.Errorf("%d trades", n)
		}
	}
	// The room behind a list is no part of it.
	if !impl.TradesOk(manyTrades(impl.MaxTrades + 1)[:impl.MaxTrades]) {
		t.Error("the room behind a list counts")
	}
}

func TestP6SmallTradesByTheWords(t *testing.T) {
	values := [8][]int{{0, 1, 1000, 1001}, {0, 1, 2, 1001}, {0, 1, 2, 1000}, {0, 3}, {0, 1, top, top + 1}, {1000, 1001}, {-1, 0, top, top + 1}, {0, 1, 3, 4}}
	row := [8]int{}
	var all func(field int)
	all = func(field int) {
		if field == len(row) {
			list := []impl.Trade{tradeOf(row)}
			if impl.TradesOk(list) != tradesRight(list) {
				t.Errorf("TradesOk(%v) is %v", list, !tradesRight(list))
			}
			return
		}
		for _, x := range values[field] {
			row[field] = x
			all(field + 1)
		}
	}
	all(0)
}

func TestP6BooksOk(t *testing.T) {
	for i, b := range rightBooks() {
		if !impl.BooksOk(b) || !booksRight(b) {
			t.Errorf("books %d are not right: %v", i, b)
		}
	}
	if b := fullBooks(); len(b.Accounts) != 20 || len(b.Instrs) != 8 || len(b.Bals) != 160 || len(b.Lots) != 120 || len(b.Trades) != 30 {
		t.Errorf("books that are not full: %v", b)
	}
	for i, b := range wrongBooks() {
		if impl.BooksOk(b) || booksRight(b) {
			t.Errorf("wrong books %d are right: %v", i, b)
		}
	}
}

// wrongBooks break one rule each.
func wrongBooks() []impl.Books {
	return slices.Concat(booksOfWrongLists(), booksOfWrongLots(), booksOfWrongBals(), booksOfMisfitLots(), booksOfMisfitTrades())
}

// booksOfWrongLists have one list that is not right by itself, or a Lot that is none.
func booksOfWrongLists() []impl.Books {
	list := []impl.Books{}
	add := func(change func(b *impl.Books)) {
		b := someBooks()
		change(&b)
		list = append(list, b)
	}
	for _, wrong := range accountFace().wrongLists() {
		list = append(list, impl.Books{Accounts: wrong})
		add(func(b *impl.Books) { b.Accounts = wrong })
	}
	for _, wrong := range instrFace().wrongLists() {
		list = append(list, impl.Books{Instrs: wrong})
		add(func(b *impl.Books) { b.Instrs = wrong })
	}
	for _, wrong := range wrongBals() {
		list = append(list, impl.Books{Bals: wrong})
		add(func(b *impl.Books) { b.Bals = wrong })
	}
	for _, wrong := range wrongLots() {
		list = append(list, impl.Books{Lots: wrong, Lot: lastNo})
		add(func(b *impl.Books) { b.Lots = wrong })
	}
	for _, wrong := range wrongTrades() {
		list = append(list, impl.Books{Trades: wrong})
		add(func(b *impl.Books) { b.Trades = wrong })
	}
	for _, lot := range []int{-1, -2, -lastNo, lastNo + 1, lastNo + 2, top, math.MaxInt, math.MinInt} {
		list = append(list, impl.Books{Lot: lot})
		add(func(b *impl.Books) { b.Lot = lot })
	}
	return list
}

// booksOfWrongLots have lots that come to the balances, and are not right all the same.
func booksOfWrongLots() []impl.Books {
	list := []impl.Books{}
	for _, lots := range []lotRows{
		{{2, 7, 4, 3, 50}, {2, 7, 1, 17, 121}, {2, 9, 2, 4, 0}, {3, 7, 3, 5, 60}},
		{{2, 7, 1, 10, 5}, {2, 7, 1, 10, 5}, {2, 9, 2, 4, 0}, {3, 7, 3, 5, 60}},
		{{2, 9, 2, 4, 0}, {2, 7, 1, 20, 5}, {3, 7, 3, 5, 60}},
		{{3, 7, 3, 5, 60}, {2, 7, 1, 20, 5}, {2, 9, 2, 4, 0}},
		{{2, 7, 0, 20, 5}, {2, 9, 2, 4, 0}, {3, 7, 3, 5, 60}},
		{{2, 7, -1, 20, 5}, {2, 9, 2, 4, 0}, {3, 7, 3, 5, 60}},
		{{2, 7, 1, 20, -1}, {2, 9, 2, 4, 0}, {3, 7, 3, 5, 60}},
		{{2, 7, 1, 20, top + 1}, {2, 9, 2, 4, 0}, {3, 7, 3, 5, 60}},
		{{2, 7, 1, 10, top}, {2, 7, 2, 10, 1}, {2, 9, 2, 4, 0}, {3, 7, 3, 5, 60}},
		{{2, 7, 1, 20, 5}, {2, 7, 2, 0, 5}, {2, 9, 2, 4, 0}, {3, 7, 3, 5, 60}},
		{{2, 7, 1, 21, 5}, {2, 7, 2, -1, 5}, {2, 9, 2, 4, 0}, {3, 7, 3, 5, 60}},
	} {
		b := someBooks()
		b.Lots = lots.lots()
		list = append(list, b)
	}
	long := fullBooks()
	long.Lots = slices.Clone(long.Lots)
	last := &long.Lots[impl.MaxLots-1]
	last.Qty--
	long.Lots = append(long.Lots, impl.Lot{Account: last.Account, Instr: last.Instr, No: 999, Qty: 1})
	return append(list, long)
}

// booksOfWrongBals have balances that are right by themselves, but not in their books.
func booksOfWrongBals() []impl.Books {
	list := []impl.Books{}
	for _, bals := range []rows{
		{{7, 5, 10}, {8, 5, -10}},
		{{1, 5, -10}, {1000, 5, 10}},
		{{4, 4, 10}, {8, 4, -10}},
		{{4, 10, -3}, {8, 10, 3}},
		{{4, 8, 10}, {8, 8, -10}},
		{{2, 5, -1}, {8, 5, 1}},
		{{2, 5, -1}, {3, 5, 1}},
		{{2, 7, -1}, {8, 7, 1}},
		{{4, 5, 10}, {6, 6, -top}, {8, 5, -10}, {8, 6, top}},
		{{1, 5, -10}, {6, 5, 11}},
		{{1, 5, -10}, {6, 5, 9}},
		{{4, 5, 1}},
		{{4, 5, -1}},
		{{4, 5, 1}, {4, 6, -1}},
		{{1, 7, 5}, {4, 7, -4}},
		{{1, 9, 5}, {4, 9, -5}, {5, 9, 3}},
		{{1, 5, top}, {4, 5, top}},
		{{1, 5, -top}, {4, 5, -top}},
		{{1, 5, -top}, {4, 5, -top}, {5, 5, top}},
	} {
		b := someBooks()
		b.Bals, b.Lots = bals.bals(), nil
		list = append(list, b)
	}
	return list
}

// booksOfMisfitLots have lots that are right by themselves, but not in their books.
func booksOfMisfitLots() []impl.Books {
	list := []impl.Books{}
	for _, c := range []struct {
		bals rows
		lots lotRows
	}{
		{rows{{1, 7, 5}, {4, 7, -5}}, lotRows{{1, 7, 1, 5, 5}}},
		{rows{{4, 7, 5}, {5, 7, -5}}, lotRows{{4, 7, 1, 5, 5}}},
		{rows{{4, 7, -5}, {5, 7, 5}}, lotRows{{5, 7, 1, 5, 5}}},
		{nil, lotRows{{4, 7, 1, 5, 5}}},
		{nil, lotRows{{7, 7, 1, 5, 5}}},
		{nil, lotRows{{1000, 7, 1, 5, 5}}},
		{nil, lotRows{{2, 4, 1, 5, 5}}},
		{nil, lotRows{{2, 8, 1, 5, 5}}},
		{rows{{1, 5, -5}, {2, 5, 5}}, lotRows{{2, 5, 1, 5, 5}}},
		{nil, lotRows{{2, 5, 1, 5, 5}}},
		{rows{{1, 7, -5}, {2, 7, 5}}, lotRows{{2, 7, 10, 5, 5}}},
		{rows{{1, 7, -5}, {2, 7, 5}}, lotRows{{2, 7, 1, 4, 5}, {2, 7, 10, 1, 5}}},
		{rows{{1, 7, -5}, {2, 7, 5}}, lotRows{{2, 7, lastNo, 5, 5}}},
		{rows{{1, 7, -5}, {2, 7, 5}}, lotRows{{2, 7, 1, 4, 5}}},
		{rows{{1, 7, -5}, {2, 7, 5}}, lotRows{{2, 7, 1, 6, 5}}},
		{rows{{1, 7, -5}, {2, 7, 5}}, lotRows{{2, 7, 1, 3, 5}, {2, 7, 2, 3, 5}}},
		{rows{{1, 7, -5}, {2, 7, 5}}, nil},
		{rows{{1, 7, -5}, {6, 7, 5}}, nil},
		{rows{{1, 7, -5}, {2, 7, 5}}, lotRows{{3, 7, 1, 5, 5}}},
		{rows{{1, 7, -5}, {2, 7, 5}}, lotRows{{2, 9, 1, 5, 5}}},
		{rows{{1, 7, -5}, {2, 7, 5}}, lotRows{{2, 7, 1, 5, 5}, {3, 7, 2, 1, 0}}},
		{rows{{1, 7, -6}, {2, 7, 5}, {3, 7, 1}}, lotRows{{2, 7, 1, 5, 5}}},
		{rows{{1, 7, -6}, {2, 7, 5}, {3, 7, 1}}, lotRows{{2, 7, 1, 1, 5}, {3, 7, 1, 5, 5}}},
		{rows{{1, 7, -6}, {2, 7, 5}, {3, 7, 1}}, lotRows{{2, 7, 1, 6, 5}}},
		{nil, lotRows{{2, 7, 1, 1, 1}}},
		{nil, lotRows{{6, 9, 9, top, top}}},
	} {
		b := someBooks()
		b.Bals, b.Lots = c.bals.bals(), c.lots.lots()
		list = append(list, b)
	}
	late := someBooks()
	late.Lot = 8
	none := someBooks()
	none.Lot = 0
	return append(list, late, none)
}

// booksOfMisfitTrades have a trade that is right by itself, but not in its books: by itself, ahead of right ones and behind them.
func booksOfMisfitTrades() []impl.Books {
	list := []impl.Books{}
	for _, row := range [][8]int{
		{5, 1, 3, 7, 4, 5, 60, 1}, {5, 4, 3, 7, 4, 5, 60, 2}, {5, 5, 3, 7, 4, 5, 60, 3}, {5, 7, 3, 7, 4, 5, 60, 1}, {5, 1000, 3, 7, 4, 5, 60, 1},
		{5, 2, 1, 7, 4, 5, 60, 1}, {5, 2, 4, 7, 4, 5, 60, 2}, {5, 2, 5, 7, 4, 5, 60, 3}, {5, 2, 7, 7, 4, 5, 60, 1}, {5, 2, 1000, 7, 4, 5, 60, 1},
		{5, 2, 3, 5, 4, 6, 60, 1}, {5, 2, 3, 5, 4, 5, 60, 1}, {5, 2, 3, 8, 4, 5, 60, 2}, {5, 2, 3, 1000, 4, 5, 60, 3},
		{5, 2, 3, 7, 4, 7, 60, 1}, {5, 2, 3, 7, 4, 9, 60, 1}, {5, 2, 3, 7, 4, 4, 60, 2}, {5, 2, 3, 7, 4, 1000, 60, 3},
		{5, 2, 3, 5, 4, 7, 60, 1}, {5, 1, 8, 7, 4, 5, 60, 1},
	} {
		wrong := []impl.Trade{tradeOf(row)}
		ahead, behind := tradeRows{{1, 2, 3, 7, 1, 5, 1, 1}}.trades(), tradeRows{{9, 3, 6, 9, 1, 6, 1, 1}}.trades()
		for _, trades := range [][]impl.Trade{wrong, slices.Concat(wrong, behind), slices.Concat(ahead, wrong), slices.Concat(ahead, wrong, behind)} {
			b := someBooks()
			b.Trades = trades
			list = append(list, b)
		}
	}
	return list
}

// One number of right books that is another one, whatever it is: by the words they are right or not.
func TestP6BooksTurnedByTheWords(t *testing.T) {
	for _, given := range []impl.Books{someBooks(), farBooks()} {
		for place := range numbersOf(&given) {
			for _, x := range []int{-1, 0, 1, 2, 3, 5, 7, 9, 1000, 1001, lastNo, top, top + 1} {
				b := cloneBooks(given)
				*numbersOf(&b)[place] = x
				if impl.BooksOk(b) != booksRight(b) {
					t.Errorf("BooksOk(%v) is %v", b, !booksRight(b))
				}
			}
			for _, d := range []int{-1, 1} {
				b := cloneBooks(given)
				*numbersOf(&b)[place] += d
				if impl.BooksOk(b) != booksRight(b) {
					t.Errorf("BooksOk(%v) is %v", b, !booksRight(b))
				}
			}
		}
	}
}

// numbersOf are all numbers of books, where they stand.
func numbersOf(b *impl.Books) []*int {
	list := []*int{&b.Lot}
	for i := range b.Accounts {
		list = append(list, &b.Accounts[i].No, &b.Accounts[i].Kind)
	}
	for i := range b.Instrs {
		list = append(list, &b.Instrs[i].No, &b.Instrs[i].Kind)
	}
	for i := range b.Bals {
		list = append(list, &b.Bals[i].Account, &b.Bals[i].Instr, &b.Bals[i].Amount)
	}
	for i := range b.Lots {
		l := &b.Lots[i]
		list = append(list, &l.Account, &l.Instr, &l.No, &l.Qty, &l.Cost)
	}
	for i := range b.Trades {
		d := &b.Trades[i]
		list = append(list, &d.No, &d.Buyer, &d.Seller, &d.Paper, &d.Qty, &d.Cash, &d.Price, &d.State)
	}
	return list
}

func cloneBooks(b impl.Books) impl.Books {
	return impl.Books{
		Accounts: slices.Clone(b.Accounts), Instrs: slices.Clone(b.Instrs), Bals: slices.Clone(b.Bals),
		Lots: slices.Clone(b.Lots), Trades: slices.Clone(b.Trades), Lot: b.Lot,
	}
}

// A row that is taken out of right books, or stands there twice, or changes places: by the words they are right or not.
func TestP6BooksWithRowsChangedByTheWords(t *testing.T) {
	for _, given := range rightBooks() {
		for i := range 12 {
			for _, b := range []impl.Books{
				{Accounts: without(given.Accounts, i), Instrs: given.Instrs, Bals: given.Bals, Lots: given.Lots, Trades: given.Trades, Lot: given.Lot},
				{Accounts: given.Accounts, Instrs: without(given.Instrs, i), Bals: given.Bals, Lots: given.Lots, Trades: given.Trades, Lot: given.Lot},
				{Accounts: given.Accounts, Instrs: given.Instrs, Bals: without(given.Bals, i), Lots: given.Lots, Trades: given.Trades, Lot: given.Lot},
				{Accounts: given.Accounts, Instrs: given.Instrs, Bals: given.Bals, Lots: without(given.Lots, i), Trades: given.Trades, Lot: given.Lot},
				{Accounts: given.Accounts, Instrs: given.Instrs, Bals: given.Bals, Lots: given.Lots, Trades: without(given.Trades, i), Lot: given.Lot},
				{Accounts: given.Accounts, Instrs: given.Instrs, Bals: twice(given.Bals, i), Lots: given.Lots, Trades: given.Trades, Lot: given.Lot},
				{Accounts: given.Accounts, Instrs: given.Instrs, Bals: given.Bals, Lots: twice(given.Lots, i), Trades: given.Trades, Lot: given.Lot},
				{Accounts: given.Accounts, Instrs: given.Instrs, Bals: given.Bals, Lots: given.Lots, Trades: twice(given.Trades, i), Lot: given.Lot},
			} {
				if impl.BooksOk(b) != booksRight(b) {
					t.Errorf("BooksOk(%v) is %v", b, !booksRight(b))
				}
			}
		}
	}
}

func without[R any](list []R, i int) []R {
	if i >= len(list) {
		return list
	}
	return slices.Delete(slices.Clone(list), i, i+1)
}

func twice[R any](list []R, i int) []R {
	if i >= len(list) {
		return list
	}
	return slices.Insert(slices.Clone(list), i, list[i])
}
