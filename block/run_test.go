package block_test

import (
	"fmt"
	"math/rand/v2"
	"slices"
	"strings"
	"testing"

	"ecclesia/api"
	"ecclesia/block"
	"ecclesia/state"
	"ecclesia/tx"
)

// all is how much all accounts have together at most.
const all = 1 << 62

// sorted is accounts as a rising row.
func sorted(l ...api.Account) []api.Account {
	slices.SortFunc(l, func(a, b api.Account) int { return strings.Compare(a.Addr, b.Addr) })
	return l
}

// rowOf is a row of so many accounts, none of them a wallet's, and of more.
func rowOf(size int, more ...api.Account) []api.Account {
	for i := range size {
		more = append(more, api.Account{Addr: of(byte(3*i + 1)), Balance: uint64(i)*7 + 1})
	}
	return sorted(more...)
}

// badRows are rows that may not be.
func badRows() [][]api.Account {
	return [][]api.Account{{{}}, {{Addr: of(1)}}, {{Addr: of(2), Balance: 1}, {Addr: of(1), Balance: 1}}, {{Addr: of(1), Balance: 1}, {Addr: of(1), Balance: 1}},
		{{Addr: of(1)[1:], Balance: 1}}, {{Addr: of(1) + "\x01", Nonce: 1}}, {{Addr: of(1), Balance: all + 1}}, {{Addr: of(1), Balance: all}, {Addr: of(2), Balance: 1}}, rowOf(25), rowOf(40)}
}

// shown is a row as far as a message needs it.
func shown(l []api.Account) string {
	var made []string
	for _, one := range l {
		made = append(made, fmt.Sprintf("%.20x(%d): %d, %d", one.Addr, len(one.Addr), one.Balance, one.Nonce))
	}
	return "[" + strings.Join(made, "; ") + "]"
}

// ran holds Run against what is wanted, and what follows of what is done.
func ran(t *testing.T, row []api.Account, l []api.Tx, proposer string, want []api.Account, errno api.Errno) {
	t.Helper()
	kept, list := slices.Clone(row), slices.Clone(l)
	got, e := block.Run(row, l, proposer)
	if !slices.Equal(got, want) || e != errno || e != api.OK && got != nil {
		t.Fatalf("Run of %.1000s, %.1000s by %.40x answers %s, %d, not %s, %d", shown(row), flatTxs(l), proposer, shown(got), e, shown(want), errno)
	}
	if !slices.Equal(row, kept) || !slices.Equal(l, list) {
		t.Fatalf("Run makes %s, %.1000s of %s, %.1000s", shown(row), flatTxs(l), shown(kept), flatTxs(list))
	}
	if e != api.OK {
		return
	}
	if !state.Right(got) || state.Total(got) != state.Total(row) {
		t.Fatalf("Run of %s answers %s", shown(row), shown(got))
	}
	if len(l) > 0 {
		if again, e := block.Run(got, l, proposer); len(again) != 0 || e != api.ErrNonce {
			t.Fatalf("Run of %s answers %s, %d the second time", shown(row), shown(again), e)
		}
	}
}

// expected holds Run against what the chapter says, and tells that.
func expected(t *testing.T, row []api.Account, l []api.Tx, proposer string) ([]api.Account, api.Errno) {
	t.Helper()
	want, errno := plainRun(row, l, proposer)
	ran(t, row, l, proposer, want, errno)
	return want, errno
}

// told is transfers with the row that is there behind each of them.
func told() (begin []api.Account, l []api.Tx, rows [][]api.Account) {
	// They stand as their bytes do: 2B5A.., 6813.., 7E5F...
	two, three, one := wallet(2), wallet(3), wallet(1)
	to, proposer := of('t'), of('p')
	begin = []api.Account{{Addr: one, Balance: 10}}
	l = []api.Tx{signed(1, to, 4, 0), signed(1, two, 2, 1), signed(2, three, 1, 0), signed(3, of(1), 0, 0), signed(1, one, 1, 2)}
	rows = [][]api.Account{
		begin,
		{{Addr: proposer, Balance: 1}, {Addr: to, Balance: 4}, {Addr: one, Balance: 5, Nonce: 1}},
		{{Addr: two, Balance: 2}, {Addr: proposer, Balance: 2}, {Addr: to, Balance: 4}, {Addr: one, Balance: 2, Nonce: 2}},
		{{Addr: two, Nonce: 1}, {Addr: three, Balance: 1}, {Addr: proposer, Balance: 3}, {Addr: to, Balance: 4}, {Addr: one, Balance: 2, Nonce: 2}},
		{{Addr: two, Nonce: 1}, {Addr: three, Nonce: 1}, {Addr: proposer, Balance: 4}, {Addr: to, Balance: 4}, {Addr: one, Balance: 2, Nonce: 2}},
		{{Addr: two, Nonce: 1}, {Addr: three, Nonce: 1}, {Addr: proposer, Balance: 5}, {Addr: to, Balance: 4}, {Addr: one, Balance: 1, Nonce: 3}},
	}
	return begin, l, rows
}

// TestRunTold is for P18.1: rows that are written out, of transfers one behind the
// other, of which each needs the ones ahead of it.
func TestRunTold(t *testing.T) {
	begin, l, rows := told()
	for many := range len(l) + 1 {
		ran(t, begin, l[:many], of('p'), rows[many], api.OK)
		for from := range many {
			ran(t, rows[from], l[from:many], of('p'), rows[many], api.OK)
		}
	}
	// Turned about, or without one of them, they can't be done.
	ran(t, begin, []api.Tx{l[1], l[0]}, of('p'), nil, api.ErrNonce)
	ran(t, begin, []api.Tx{l[2], l[0], l[1]}, of('p'), nil, api.ErrFunds)
	ran(t, begin, []api.Tx{l[0], l[2]}, of('p'), nil, api.ErrFunds)
	ran(t, begin, []api.Tx{l[0], l[0]}, of('p'), nil, api.ErrNonce)
	// A sender has what a transfer ahead of its own gave it, or its fees as proposer.
	ran(t, []api.Account{{Addr: wallet(1), Balance: 9}}, []api.Tx{signed(1, wallet(2), 7, 0), signed(2, wallet(3), 6, 0), signed(3, wallet(1), 5, 0)}, of('p'),
		[]api.Account{{Addr: wallet(2), Nonce: 1}, {Addr: wallet(3), Nonce: 1}, {Addr: of('p'), Balance: 3}, {Addr: wallet(1), Balance: 6, Nonce: 1}}, api.OK)
	ran(t, []api.Account{{Addr: wallet(1), Balance: 5}}, []api.Tx{signed(1, of(1), 4, 0), signed(2, of(1), 0, 0)}, wallet(2),
		[]api.Account{{Addr: of(1), Balance: 4}, {Addr: wallet(2), Balance: 1, Nonce: 1}, {Addr: wallet(1), Nonce: 1}}, api.OK)
}

// TestRunNone is for P18.1: without a transfer the row stays, whoever the proposer
// is, if it may be.
func TestRunNone(t *testing.T) {
	rows := [][]api.Account{nil, {}, {{Addr: of(0), Balance: all, Nonce: most}}, {{Addr: of(0), Nonce: most}, {Addr: of(0xff), Nonce: most}}}
	for size := range 25 {
		rows = append(rows, rowOf(size))
	}
	for _, row := range rows {
		for _, proposer := range append(noAddresses(), of('p'), of(1)) {
			ran(t, row, nil, proposer, row, api.OK)
			ran(t, row, []api.Tx{}, proposer, row, api.OK)
		}
	}
}

// TestRunRow is for P18.1: rows that may not be come ahead of all else, also without
// a transfer.
func TestRunRow(t *testing.T) {
	lists := [][]api.Tx{nil, {}, {pays(1, 4, 0)}, {unsigned()}, {pays(1, most, 7)}, {{}}, some(5)}
	for _, row := range badRows() {
		for _, l := range lists {
			for _, proposer := range []string{of('p'), "", of('p') + "p"} {
				ran(t, row, l, proposer, nil, api.ErrArg)
			}
		}
		row = slices.Concat(row, []api.Account{{Addr: wallet(1), Balance: 100}})
		ran(t, row, lists[2], of('p'), nil, api.ErrArg)
	}
}

// TestRunProposer is for P18.1: proposers that have not 20 bytes, which come ahead of
// a transfer's other errors, but only if there is one.
func TestRunProposer(t *testing.T) {
	row := []api.Account{{Addr: wallet(1), Balance: 100}}
	for _, proposer := range noAddresses() {
		for _, x := range []api.Tx{pays(1, 4, 0), pays(1, 4, 1), pays(1, 100, 0), unsigned(), {}} {
			ran(t, row, []api.Tx{x}, proposer, nil, api.ErrArg)
			ran(t, row, []api.Tx{pays(1, 4, 0), x}, proposer, nil, api.ErrArg)
			ran(t, nil, []api.Tx{x}, proposer, nil, api.ErrArg)
		}
		ran(t, row, nil, proposer, row, api.OK)
	}
}

// TestRunFirst is for P18.1: of errors the first transfer's is told, in each place.
func TestRunFirst(t *testing.T) {
	full := rowOf(21, api.Account{Addr: wallet(1), Balance: 1000}, api.Account{Addr: of('p'), Balance: 1}, api.Account{Addr: of('t'), Balance: 1})
	if len(full) != 24 {
		t.Fatal(len(full))
	}
	ends := []struct {
		x     func(nonce uint64) api.Tx
		errno api.Errno
	}{
		{func(nonce uint64) api.Tx { return api.Tx{} }, api.ErrArg},
		{func(nonce uint64) api.Tx { return wrong()[nonce%uint64(len(wrong()))] }, api.ErrArg},
		{func(nonce uint64) api.Tx { return unsigned() }, api.ErrSign},
		{func(nonce uint64) api.Tx { return pays(1, 4, nonce+1) }, api.ErrNonce},
		{func(nonce uint64) api.Tx { return pays(1, 1000, nonce) }, api.ErrFunds},
		{func(nonce uint64) api.Tx { return signed(1, of(0xfe), 4, nonce) }, api.ErrFull},
	}
	for _, end := range ends {
		for many := range 7 {
			var l []api.Tx
			for nonce := range uint64(many) {
				l = append(l, pays(1, 4, nonce))
			}
			l = append(l, end.x(uint64(many)))
			ran(t, full, l, of('p'), nil, end.errno)
			for _, other := range ends {
				ran(t, full, append(slices.Clone(l), other.x(uint64(many))), of('p'), nil, end.errno)
			}
			ran(t, full, append(slices.Clone(l), pays(1, 4, uint64(many))), of('p'), nil, end.errno)
		}
	}
}

// TestRunMany is for P18.1: more transfers than a block has, and than a row has room
// for new accounts.
func TestRunMany(t *testing.T) {
	row := []api.Account{{Addr: wallet(1), Balance: 10000}}
	var l []api.Tx
	for nonce := range uint64(60) {
		l = append(l, signed(1, of(byte(nonce%20)), nonce, nonce))
	}
	for _, many := range []int{4, 5, 16, 17, 60} {
		got, errno := expected(t, row, l[:many], of('p'))
		if errno != api.OK || state.Of(got, wallet(1)).Nonce != uint64(many) {
			t.Errorf("%d transfers: %s, %d", many, shown(got), errno)
		}
	}
	l = nil
	for nonce := range uint64(30) {
		l = append(l, signed(1, of(byte(nonce)), 1, nonce))
	}
	for many := range l {
		errno := api.OK
		// The sender, the proposer, and 22 more.
		if many > 22 {
			errno = api.ErrFull
		}
		if _, e := expected(t, row, l[:many], of('p')); e != errno {
			t.Errorf("%d transfers: %d", many, e)
		}
	}
}

// TestRunSteps is for P18.1 and P18.3: transfers of few, to few, by one of them; each
// run is its first half and then its second one, and leaves what all have together.
func TestRunSteps(t *testing.T) {
	source := rand.New(rand.NewPCG(18, 1))
	is := map[api.Errno]int{}
	for range 200 {
		row := sorted(api.Account{Addr: wallet(1), Balance: 1 + source.Uint64N(12)}, api.Account{Addr: wallet(2), Balance: 1 + source.Uint64N(12)}, api.Account{Addr: of('t'), Balance: all - 100})
		nonces := [3]uint64{}
		var l []api.Tx
		for range source.IntN(6) {
			who := 1 + source.Uint64N(2)
			l = append(l, signed(who, []string{wallet(1), wallet(2), of('t'), of('u')}[source.IntN(4)], source.Uint64N(5), nonces[who]))
			if source.IntN(6) > 0 {
				nonces[who]++
			}
		}
		proposer := []string{wallet(1), of('p'), of('t')}[source.IntN(3)]
		got, errno := expected(t, row, l, proposer)
		is[errno]++
		at := source.IntN(len(l) + 1)
		first, e := block.Run(row, l[:at], proposer)
		if e == api.OK {
			ran(t, first, l[at:], proposer, got, errno)
		} else if e != errno {
			t.Fatalf("Run of %s, %s tells %d, and of %d of them %d", shown(row), flatTxs(l), errno, at, e)
		}
	}
	if is[api.OK] < 50 || is[api.ErrNonce] < 10 || is[api.ErrFunds] < 10 || len(is) != 3 {
		t.Errorf("transfers that can be done, and others: %v", is)
	}
}

// TestRunAlone is for P18.1: a row that is answered is new memory, with transfers and
// without one, and hangs on no call that was ahead of it.
func TestRunAlone(t *testing.T) {
	long := strings.Repeat("t", 4000)
	x := pays(1, 4, 0)
	x.To = long[1000:1020]
	proposer := strings.Repeat("p", 4000)[:20]
	row := append(make([]api.Account, 0, 40), sorted(api.Account{Addr: wallet(1), Balance: 10}, api.Account{Addr: of(1), Balance: 2})...)
	kept := slices.Clone(row)
	for _, l := range [][]api.Tx{nil, {x}, {x, pays(1, 3, 1)}} {
		one, _ := block.Run(row, l, proposer)
		two, _ := block.Run(row, l, proposer)
		for _, got := range one {
			apart(t, "Run", got.Addr, x.To)
			apart(t, "Run", got.Addr, proposer)
			for _, had := range row {
				apart(t, "Run", got.Addr, had.Addr)
			}
		}
		one[0].Balance++
		block.Run(rowOf(25), l, "")
		want, errno := plainRun(row, l, proposer)
		if !slices.Equal(two, want) || errno != api.OK || one[0] == two[0] {
			t.Errorf("Run answers %s, then %s", shown(one), shown(two))
		}
		if !slices.Equal(row, kept) || !slices.Equal(row[:40][2:], make([]api.Account, 38)) {
			t.Errorf("Run makes a row %s of %s", shown(row), shown(kept))
		}
	}
}

// TestRunLong is for P18.1: rows and lists that are far too long end soon.
func TestRunLong(t *testing.T) {
	ran(t, make([]api.Account, 1<<20), nil, of('p'), nil, api.ErrArg)
	l := make([]api.Tx, 1<<20)
	ran(t, nil, l, of('p'), nil, api.ErrArg)
	l[0] = pays(1, 4, 0)
	for i := range l {
		l[i] = l[0]
	}
	ran(t, []api.Account{{Addr: wallet(1), Balance: 100}}, l, of('p'), nil, api.ErrNonce)
}

// TestRunBlock is for P18.3: what is done of a block's transfers is so of those that
// are read of its bytes.
func TestRunBlock(t *testing.T) {
	begin, l, rows := told()
	for many := range 5 {
		b := blockOf(head(), l[:many]...)
		s, _ := block.Bytes(b)
		back, e := block.Read(s)
		sameBlock(t, s, back, e, b, api.OK)
		ran(t, begin, back.Txs, of('p'), rows[many], api.OK)
		for _, one := range back.Txs {
			if _, e := tx.Sender(one); e != api.OK {
				t.Error(e)
			}
		}
	}
}

func BenchmarkRun(b *testing.B) {
	begin, l, _ := told()
	for b.Loop() {
		block.Run(begin, l[:4], of('p'))
	}
}
