package pool_test

import (
	"fmt"
	"math"
	"math/rand/v2"
	"slices"
	"strings"
	"testing"
	"unsafe"

	"ecclesia/api"
	"ecclesia/pool"
	"ecclesia/sign"
	"ecclesia/state"
	"ecclesia/tx"
)

const (
	most = math.MaxUint64
	// all is how much all accounts have together at most.
	all = 1 << 62
)

// each is the address of twenty times one byte.
func each(one byte) string { return strings.Repeat(string([]byte{one}), 20) }

// wallets are addresses that were asked.
var wallets = map[uint64]string{}

// wallet is a secret's address.
func wallet(secret uint64) string {
	if wallets[secret] == "" {
		made, errno := sign.Address(api.U{secret})
		if errno != api.OK {
			panic(secret)
		}
		wallets[secret] = made
	}
	return wallets[secret]
}

// written is what a transfer is signed from.
type written struct {
	secret        uint64
	to            string
	amount, nonce uint64
}

// ready is transfers that were signed, as signing takes its time.
var ready = map[written]api.Tx{}

// signed is a secret's transfer.
func signed(secret uint64, to string, amount, nonce uint64) api.Tx {
	w := written{secret, to, amount, nonce}
	if made, is := ready[w]; is {
		return made
	}
	made, errno := tx.Sign(api.U{secret}, to, amount, nonce)
	if errno != api.OK {
		panic(fmt.Sprint(w, errno))
	}
	ready[w] = made
	return made
}

// pays is a secret's transfer to one that has nothing.
func pays(secret, amount, nonce uint64) api.Tx { return signed(secret, each('t'), amount, nonce) }

// unsigned are transfers that may be, of no sender.
func unsigned(many int) []api.Tx {
	var made []api.Tx
	x := api.Tx{To: each('t'), Sig: api.Sig{R: api.U{1}, S: api.U{1}}}
	for ; len(made) < many; x.Sig.R[0]++ {
		if of(x).errno == api.ErrSign {
			made = append(made, x)
		}
	}
	return made
}

// wrong are transfers that may not be.
func wrong() []api.Tx {
	x := pays(1, 4, 0)
	list := []api.Tx{{}, {To: each('t')}, {To: x.To, Sig: api.Sig{R: x.Sig.R}}, {To: x.To, Sig: api.Sig{S: x.Sig.S}},
		{To: x.To, Amount: 4, Sig: api.Sig{R: x.Sig.R, S: x.Sig.S, V: 2}}, {To: x.To, Amount: 4, Sig: api.Sig{R: x.Sig.R, S: x.Sig.S, V: -1}},
		{To: x.To, Amount: 4, Sig: api.Sig{R: x.Sig.R, S: api.U{0, 0, 0, 1 << 63}, V: x.Sig.V}}}
	for _, addr := range noAddresses() {
		list = append(list, api.Tx{To: addr, Amount: 4, Sig: x.Sig}, api.Tx{To: addr, Sig: unsigned(1)[0].Sig})
	}
	return list
}

// noAddresses are texts that have not 20 bytes, one of them 20 runes.
func noAddresses() []string {
	list := []string{"", strings.Repeat("\xC3\xA4", 20)}
	for _, size := range []int{1, 19, 21, 32, 40, 256 + 20, 65536 + 20} {
		list = append(list, strings.Repeat("a", size))
	}
	return list
}

// badRows are rows that may not be.
func badRows() [][]api.Account {
	return [][]api.Account{{{}}, {{Addr: each(1)}}, {{Addr: each(2), Balance: 1}, {Addr: each(1), Balance: 1}}, {{Addr: each(1), Balance: 1}, {Addr: each(1), Balance: 1}},
		{{Addr: each(1)[1:], Balance: 1}}, {{Addr: each(1), Balance: all + 1}}, {{Addr: each(1), Balance: all}, {Addr: each(2), Balance: 1}}, rowOf(25)}
}

// rowOf is a row of so many accounts, none of them a wallet's.
func rowOf(size int, more ...api.Account) []api.Account {
	for i := range size {
		more = append(more, api.Account{Addr: each(byte(3*i + 1)), Balance: uint64(i)*7 + 1})
	}
	slices.SortFunc(more, func(a, b api.Account) int { return strings.Compare(a.Addr, b.Addr) })
	return more
}

// many is so many transfers, of four secrets.
func many(size int) []api.Tx {
	var made []api.Tx
	for i := range uint64(size) {
		made = append(made, pays(i%4+1, 4, i/4))
	}
	return made
}

// goods are pools that may be: of all sizes, with the edges.
func goods() []api.Pool {
	list := []api.Pool{{}, {Txs: []api.Tx{}}, rising(pays(1, 0, 0)), rising(pays(1, most, most)),
		// Nothing but what is signed tells them from one another.
		rising(pays(1, 1, 0), pays(1, 2, 0), pays(1, 3, 0)), rising(pays(1, 1, 0), signed(1, each('u'), 1, 0)), rising(pays(1, 1, 0), pays(1, 1, 1))}
	for size := range 17 {
		list = append(list, rising(many(size)...))
	}
	// A signature of no secret that is known, and its sender.
	for _, v := range []int{0, 1} {
		x := api.Tx{To: each('t'), Sig: api.Sig{R: api.U{1}, S: api.U{7}, V: v}}
		list = append(list, rising(x), rising(append(many(15), x)...))
	}
	return list
}

// turned is a pool with two of its transfers in each other's place.
func turned(p api.Pool, i, j int) api.Pool {
	made := slices.Clone(p.Txs)
	made[i], made[j] = made[j], made[i]
	return api.Pool{Txs: made}
}

// with is a pool with a transfer put in at a place.
func with(p api.Pool, at int, t api.Tx) api.Pool {
	return api.Pool{Txs: slices.Insert(slices.Clone(p.Txs), at, t)}
}

// bads are pools that may not be, each for one reason but for the longest ones.
func bads() []api.Pool {
	full := rising(many(16)...)
	list := []api.Pool{rising(many(17)...), rising(many(18)...), rising(many(40)...), {Txs: make([]api.Tx, 1)}, {Txs: make([]api.Tx, 17)}, turned(full, 0, 15)}
	for at := range 15 {
		list = append(list, turned(full, at, at+1))
	}
	few := rising(many(5)...)
	for at := range 5 {
		list = append(list, with(few, at, few.Txs[at]), with(few, at, wrong()[at]), with(few, at+1, wrong()[at+5]))
	}
	for _, one := range wrong() {
		list = append(list, api.Pool{Txs: []api.Tx{one}}, with(few, 5, one))
	}
	for _, one := range unsigned(4) {
		list = append(list, rising(one), rising(append(many(5), one)...), rising(append(many(15), one)...))
	}
	return append(list, rising(unsigned(3)...), api.Pool{Txs: []api.Tx{full.Txs[0], full.Txs[0]}})
}

// shown is a pool as far as a message needs it.
func shown(l []api.Tx) string {
	if len(l) > 20 {
		return fmt.Sprintf("%d transfers", len(l))
	}
	var made []string
	for _, one := range l {
		made = append(made, fmt.Sprintf("%x to %.20x(%d): %d, Nonce %d, sum %.4x", of(one).sender, one.To, len(one.To), one.Amount, one.Nonce, of(one).sum.Bytes()))
	}
	return "[" + strings.Join(made, "; ") + "]"
}

// added holds Add against what is wanted.
func added(t *testing.T, p api.Pool, x api.Tx, want api.Pool, errno api.Errno) {
	t.Helper()
	kept := slices.Clone(p.Txs)
	got, e := pool.Add(p, x)
	if !slices.Equal(got.Txs, want.Txs) || e != errno {
		t.Fatalf("Add of %s to %s answers %s, %d, not %s, %d", shown([]api.Tx{x}), shown(p.Txs), shown(got.Txs), e, shown(want.Txs), errno)
	}
	if !slices.Equal(p.Txs, kept) {
		t.Fatalf("Add makes a pool %s of %s", shown(p.Txs), shown(kept))
	}
}

// taken holds Take against what is wanted.
func taken(t *testing.T, p api.Pool, l []api.Account, proposer string, want []api.Tx, errno api.Errno) {
	t.Helper()
	kept, row := slices.Clone(p.Txs), slices.Clone(l)
	got, e := pool.Take(p, l, proposer)
	if !slices.Equal(got, want) || e != errno {
		t.Fatalf("Take of %s, %v by %x answers %s, %d, not %s, %d", shown(p.Txs), l, proposer, shown(got), e, shown(want), errno)
	}
	if !slices.Equal(p.Txs, kept) || !slices.Equal(l, row) {
		t.Fatalf("Take makes %s, %v of %s, %v", shown(p.Txs), l, shown(kept), row)
	}
	for _, one := range got {
		left, e := state.Apply(row, one, proposer)
		if e != api.OK || !slices.Contains(kept, one) {
			t.Fatalf("Take of %s answers %s, which can't be done: %d", shown(kept), shown(got), e)
		}
		row = left
	}
}

// dropped holds Drop against what is wanted.
func dropped(t *testing.T, p api.Pool, l []api.Account, want api.Pool, errno api.Errno) {
	t.Helper()
	kept, row := slices.Clone(p.Txs), slices.Clone(l)
	got, e := pool.Drop(p, l)
	if !slices.Equal(got.Txs, want.Txs) || e != errno {
		t.Fatalf("Drop of %s, %v answers %s, %d, not %s, %d", shown(p.Txs), l, shown(got.Txs), e, shown(want.Txs), errno)
	}
	if !slices.Equal(p.Txs, kept) || !slices.Equal(l, row) {
		t.Fatalf("Drop makes %s, %v of %s, %v", shown(p.Txs), l, shown(kept), row)
	}
	if e != api.OK {
		return
	}
	for _, one := range kept {
		if _, errno := state.Apply(l, one, each('p')); errno != api.ErrNonce && !slices.Contains(got.Txs, one) {
			t.Fatalf("Drop of %s, %v lets %s go, which tells %d", shown(kept), l, shown([]api.Tx{one}), errno)
		}
	}
}

// plainly holds Take and Drop against what the chapter says, and tells how many
// are chosen, and how many left.
func plainly(t *testing.T, p api.Pool, l []api.Account, proposer string) (chosen, left int) {
	t.Helper()
	want, errno := plainTake(p, l, proposer)
	taken(t, p, l, proposer, want, errno)
	rest, errno := plainDrop(p, l)
	dropped(t, p, l, rest, errno)
	return len(want), len(rest.Txs)
}

// TestRight is for P16.1: pools that may be, and such that may not.
func TestRight(t *testing.T) {
	for _, p := range goods() {
		if !pool.Right(p) || !plainRight(p) {
			t.Errorf("%s may not be", shown(p.Txs))
		}
	}
	for _, p := range bads() {
		if pool.Right(p) || plainRight(p) {
			t.Errorf("%s may be", shown(p.Txs))
		}
	}
}

// TestAddTold is for P16.1: transfers whose sums begin with what stands beside them
// are put in, and each one stands by its sum, wherever it comes.
func TestAddTold(t *testing.T) {
	want := []api.Tx{
		pays(2, 1, 1), // 0405
		pays(2, 1, 0), // 1E1C
		pays(3, 3, 1), // 504E
		pays(1, 3, 0), // 5872
		pays(1, 1, 0), // 5A28
		pays(1, 2, 1), // 6B1D
		pays(3, 2, 2), // 7408
		pays(3, 1, 0), // 810E
		pays(1, 1, 1), // 86FF
	}
	source := rand.New(rand.NewPCG(16, 1))
	for range 4 {
		var p api.Pool
		for _, at := range source.Perm(len(want)) {
			had := p
			p, _ = pool.Add(p, want[at])
			if !pool.Right(p) || len(p.Txs) != len(had.Txs)+1 {
				t.Fatalf("Add of %s to %s answers %s", shown(want[at:at+1]), shown(had.Txs), shown(p.Txs))
			}
			added(t, p, want[at], api.Pool{}, api.ErrKnown)
		}
		if !slices.Equal(p.Txs, want) {
			t.Fatalf("%s, not %s", shown(p.Txs), shown(want))
		}
	}
}

// TestAdd is for P16.1: a transfer more at each place of a pool of each size, up to
// 16, and no one beyond.
func TestAdd(t *testing.T) {
	for size := range 17 {
		whole := rising(many(size + 1)...)
		for at := range size + 1 {
			if size > 6 && at%5 != 0 && at != size {
				continue
			}
			p, x := api.Pool{Txs: slices.Delete(slices.Clone(whole.Txs), at, at+1)}, whole.Txs[at]
			if size < 16 {
				added(t, p, x, whole, api.OK)
			} else {
				added(t, p, x, api.Pool{}, api.ErrFull)
			}
		}
	}
	// Of one sender and one nonce there may be any number.
	p, same := api.Pool{}, []api.Tx{pays(1, 1, 0), pays(1, 2, 0), pays(1, 3, 0), pays(1, most, 0), signed(1, each('u'), 1, 0), signed(1, wallet(1), 1, 0)}
	for i, x := range same {
		added(t, p, x, rising(same[:i+1]...), api.OK)
		p = rising(same[:i+1]...)
	}
}

// TestAddErrors is for P16.1: each error, and which of them comes first.
func TestAddErrors(t *testing.T) {
	full := rising(many(16)...)
	known, other, nobody, bad := full.Txs[7], pays(5, 4, 0), unsigned(1)[0], wrong()
	for _, p := range bads() {
		added(t, p, other, api.Pool{}, api.ErrArg)
	}
	for _, p := range bads()[:8] {
		added(t, p, nobody, api.Pool{}, api.ErrArg)
		added(t, p, p.Txs[0], api.Pool{}, api.ErrArg)
		added(t, p, bad[3], api.Pool{}, api.ErrArg)
	}
	for _, p := range []api.Pool{{}, rising(many(1)...), full} {
		for _, one := range bad[:9] {
			added(t, p, one, api.Pool{}, api.ErrArg)
		}
		for _, one := range unsigned(3) {
			added(t, p, one, api.Pool{}, api.ErrSign)
		}
	}
	for _, one := range full.Txs[:8] {
		added(t, full, one, api.Pool{}, api.ErrKnown)
	}
	added(t, rising(known), known, api.Pool{}, api.ErrKnown)
	added(t, full, other, api.Pool{}, api.ErrFull)
	added(t, rising(many(15)...), other, rising(append(many(15), other)...), api.OK)
}

// TestTakeTold is for P16.2: what is chosen, written out; the sums of nonce 0 begin
// with 1E1C (2, 1), 4E3B (2, 2), 5872 (1, 3), 5A28 (1, 1), 6544 (2, 3), 810E (3, 1),
// 9CFC (3, 2), D206 (3, 3) and F27A (1, 2), by secrets and amounts.
func TestTakeTold(t *testing.T) {
	one, two, three := api.Account{Addr: wallet(1), Balance: 10}, api.Account{Addr: wallet(2), Balance: 10}, api.Account{Addr: wallet(3), Balance: 10}
	cases := []struct {
		waiting []api.Tx
		row     []api.Account
		want    []api.Tx
	}{
		{nil, nil, nil}, {nil, rowOf(24), nil},
		{[]api.Tx{pays(1, 1, 0)}, nil, nil},
		{[]api.Tx{pays(1, 1, 0)}, rowOf(0, one), []api.Tx{pays(1, 1, 0)}},
		{[]api.Tx{pays(1, 1, 1)}, rowOf(0, one), nil},
		// Nonces go ahead of sums: 86FF behind 5A28, and 04F9 behind 6B1D.
		{[]api.Tx{pays(1, 1, 0), pays(1, 2, 1), pays(1, 2, 2)}, rowOf(0, one), []api.Tx{pays(1, 1, 0), pays(1, 2, 1), pays(1, 2, 2)}},
		{[]api.Tx{pays(2, 1, 1), pays(2, 1, 0), pays(3, 3, 0)}, rowOf(0, two, three), []api.Tx{pays(2, 1, 0), pays(3, 3, 0), pays(2, 1, 1)}},
		// Of one nonce the least sum alone can be done, or, if it costs too much, the next.
		{[]api.Tx{pays(1, 1, 0), pays(1, 2, 0), pays(1, 3, 0)}, rowOf(0, one), []api.Tx{pays(1, 3, 0)}},
		{[]api.Tx{pays(1, 1, 0), pays(1, 2, 0), pays(1, 3, 0)}, rowOf(0, api.Account{Addr: wallet(1), Balance: 3}), []api.Tx{pays(1, 1, 0)}},
		{[]api.Tx{pays(1, 2, 0), pays(1, 3, 0)}, rowOf(0, api.Account{Addr: wallet(1), Balance: 3}), []api.Tx{pays(1, 2, 0)}},
		// A fifth one is not chosen, also if it could be done.
		{[]api.Tx{pays(1, 1, 0), pays(1, 1, 1), pays(2, 1, 0), pays(2, 1, 1), pays(3, 1, 0), pays(3, 1, 1)}, rowOf(0, one, two, three),
			[]api.Tx{pays(2, 1, 0), pays(1, 1, 0), pays(3, 1, 0), pays(2, 1, 1)}},
		// Nor is one that is behind another one that can't be done.
		{[]api.Tx{pays(1, 1, 0), pays(1, 1, 2), pays(2, 1, 1), pays(3, 1, 0), pays(3, 1, 1)}, rowOf(0, one, two, three), []api.Tx{pays(1, 1, 0), pays(3, 1, 0), pays(3, 1, 1)}},
		// What the ones ahead of it leave: 2 and the fee, and then too little.
		{[]api.Tx{pays(1, 1, 0), pays(1, 2, 1), pays(1, 1, 2)}, rowOf(0, api.Account{Addr: wallet(1), Balance: 6}), []api.Tx{pays(1, 1, 0), pays(1, 2, 1)}},
		{[]api.Tx{pays(1, 1, 0), pays(1, 3, 1), pays(1, 2, 1), pays(1, 1, 1)}, rowOf(0, api.Account{Addr: wallet(1), Balance: 5}), []api.Tx{pays(1, 1, 0), pays(1, 2, 1)}},
		// Nonces rise as numbers without a sign, of all 64 bits.
		{[]api.Tx{pays(1, 1, most-1), pays(4, 1, 1<<63), pays(3, 1, 1<<32), pays(2, 1, 5)},
			rowOf(0, api.Account{Addr: wallet(1), Balance: 9, Nonce: most - 1}, api.Account{Addr: wallet(2), Balance: 9, Nonce: 5}, api.Account{Addr: wallet(3), Balance: 9, Nonce: 1 << 32}, api.Account{Addr: wallet(4), Balance: 9, Nonce: 1 << 63}),
			[]api.Tx{pays(2, 1, 5), pays(3, 1, 1<<32), pays(4, 1, 1<<63), pays(1, 1, most-1)}},
		// The last nonce is never done.
		{[]api.Tx{pays(1, 1, most), pays(1, 1, most-1)}, rowOf(0, api.Account{Addr: wallet(1), Balance: 10, Nonce: most - 1}), []api.Tx{pays(1, 1, most-1)}},
	}
	for _, c := range cases {
		taken(t, rising(c.waiting...), c.row, each('p'), c.want, api.OK)
	}
}

// TestTakeGains is for P16.2: one that is paid ahead of its turn can pay, and one
// that is paid behind it can't; a proposer has the fees as they come.
func TestTakeGains(t *testing.T) {
	rich := rowOf(0, api.Account{Addr: wallet(1), Balance: 100})
	gift, later := signed(1, wallet(2), 8, 0), signed(1, wallet(2), 8, 1)
	// The gift's sum begins with 5EC7, those of 3, 6 and 7 with 6544, EA9D and FED5.
	for amount := range uint64(8) {
		x := pays(2, amount, 0)
		want := []api.Tx{gift}
		if amount == 3 || amount > 5 {
			want = append(want, x)
		}
		taken(t, rising(gift, x), rich, each('p'), want, api.OK)
		taken(t, rising(gift, later, x), rich, each('p'), append(want, later), api.OK)
	}
	// By secret 3, which has nothing but the fees: 0BAE, and then 2018, or 810E.
	taken(t, rising(pays(1, 5, 0), pays(3, 1, 0)), rich, wallet(3), []api.Tx{pays(1, 5, 0)}, api.OK)
	taken(t, rising(pays(1, 5, 0), pays(3, 0, 0)), rich, wallet(3), []api.Tx{pays(1, 5, 0), pays(3, 0, 0)}, api.OK)
	taken(t, rising(pays(1, 5, 0), pays(3, 0, 0)), rich, wallet(4), []api.Tx{pays(1, 5, 0)}, api.OK)
	// 5A28 is behind 2018, which has no fee yet then.
	taken(t, rising(pays(1, 1, 0), pays(3, 0, 0)), rich, wallet(3), []api.Tx{pays(1, 1, 0)}, api.OK)
	// A row that is full, and one of which an account goes.
	full := rowOf(23, api.Account{Addr: wallet(1), Balance: 100})
	taken(t, rising(pays(1, 1, 0), signed(1, each(1), 5, 0)), full, each(4), []api.Tx{signed(1, each(1), 5, 0)}, api.OK)
	taken(t, rising(signed(1, each(1), 5, 0), signed(1, each(1), 5, 1)), full, each('p'), nil, api.OK)
}

// TestTakeFour is for P16.2: of each pool's transfers that can be done, at most four
// are chosen.
func TestTakeFour(t *testing.T) {
	var rich []api.Account
	for secret := range uint64(4) {
		rich = append(rich, api.Account{Addr: wallet(secret + 1), Balance: 1000})
	}
	rich = rowOf(3, rich...)
	for _, size := range []int{0, 1, 2, 3, 4, 5, 6, 8, 15, 16} {
		if chosen, left := plainly(t, rising(many(size)...), rich, each('p')); chosen != min(size, 4) || left != size {
			t.Errorf("%d of %d are chosen, %d left", chosen, size, left)
		}
	}
	var own []api.Tx
	for nonce := range uint64(16) {
		own = append(own, pays(1, 2, nonce))
	}
	taken(t, rising(own...), rich, each('p'), own[:4], api.OK)
	for _, from := range []uint64{0, 1, 11, 12, 13, 15} {
		row := rowOf(1, api.Account{Addr: wallet(1), Balance: 1000, Nonce: from})
		taken(t, rising(own...), row, each('p'), own[from:min(from+4, 16)], api.OK)
		dropped(t, rising(own...), row, rising(own[from:]...), api.OK)
	}
}

// TestArg is for P16.2 and P16.3: pools, rows and proposers that may not be.
func TestArg(t *testing.T) {
	p, l := rising(many(3)...), rowOf(2, api.Account{Addr: wallet(1), Balance: 10})
	if chosen, left := plainly(t, p, l, each('p')); chosen != 1 || left != 3 {
		t.Errorf("%d are chosen, %d left", chosen, left)
	}
	for _, bad := range bads() {
		taken(t, bad, l, each('p'), nil, api.ErrArg)
		dropped(t, bad, l, api.Pool{}, api.ErrArg)
	}
	for _, bad := range badRows() {
		for _, some := range []api.Pool{p, {}, bads()[0]} {
			taken(t, some, bad, each('p'), nil, api.ErrArg)
			dropped(t, some, bad, api.Pool{}, api.ErrArg)
		}
	}
	for _, addr := range noAddresses() {
		taken(t, p, l, addr, nil, api.ErrArg)
		taken(t, api.Pool{}, nil, addr, nil, api.ErrArg)
		taken(t, bads()[0], badRows()[0], addr, nil, api.ErrArg)
	}
}

// TestDropTold is for P16.3: nonces below, at and above the sender's, which may have
// no account; what is left stands as it stood.
func TestDropTold(t *testing.T) {
	p := rising(pays(1, 1, 0), pays(1, 1, 1), pays(1, 2, 1), pays(1, 2, 2), pays(2, 1, 0), pays(2, 1, 1), pays(3, 1, 0))
	at := func(secret, nonce uint64) api.Account { return api.Account{Addr: wallet(secret), Nonce: nonce} }
	cases := []struct {
		row  []api.Account
		want []api.Tx
	}{
		{nil, p.Txs}, {rowOf(24), p.Txs}, {rowOf(0, api.Account{Addr: wallet(1), Balance: all}), p.Txs},
		{rowOf(0, at(1, 1)), []api.Tx{pays(1, 1, 1), pays(1, 2, 1), pays(1, 2, 2), pays(2, 1, 0), pays(2, 1, 1), pays(3, 1, 0)}},
		{rowOf(0, at(1, 2)), []api.Tx{pays(1, 2, 2), pays(2, 1, 0), pays(2, 1, 1), pays(3, 1, 0)}},
		{rowOf(0, at(1, 3)), []api.Tx{pays(2, 1, 0), pays(2, 1, 1), pays(3, 1, 0)}},
		{rowOf(0, at(1, most)), []api.Tx{pays(2, 1, 0), pays(2, 1, 1), pays(3, 1, 0)}},
		{rowOf(4, at(1, 1), at(2, 1), at(3, 1)), []api.Tx{pays(1, 1, 1), pays(1, 2, 1), pays(1, 2, 2), pays(2, 1, 1)}},
		{rowOf(0, at(1, 9), at(2, 9), at(3, 9)), nil},
		// Others' nonces are nothing to them.
		{rowOf(0, at(4, most), api.Account{Addr: each('t'), Nonce: 7}), p.Txs},
	}
	for _, c := range cases {
		dropped(t, p, c.row, rising(c.want...), api.OK)
	}
	// The last nonce stays, though it never can be done.
	last := rising(pays(1, 1, most-1), pays(1, 1, most))
	dropped(t, last, rowOf(0, at(1, most)), rising(pays(1, 1, most)), api.OK)
	dropped(t, last, rowOf(0, at(1, most-1)), last, api.OK)
	dropped(t, api.Pool{}, nil, api.Pool{}, api.OK)
}

// TestLong is for P16.1 to P16.3: pools of very many transfers are none.
func TestLong(t *testing.T) {
	p, x := api.Pool{Txs: make([]api.Tx, 1<<20)}, pays(1, 4, 0)
	for i := range p.Txs {
		p.Txs[i] = x
	}
	_, one := pool.Add(p, x)
	_, two := pool.Take(p, nil, each('p'))
	_, three := pool.Drop(p, nil)
	if pool.Right(p) || one != api.ErrArg || two != api.ErrArg || three != api.ErrArg {
		t.Errorf("%d, %d, %d", one, two, three)
	}
}

// apart holds that two texts share no memory.
func apart(t *testing.T, call, one, other string) {
	t.Helper()
	start, begun := uintptr(unsafe.Pointer(unsafe.StringData(one))), uintptr(unsafe.Pointer(unsafe.StringData(other)))
	if start < begun+uintptr(len(other)) && begun < start+uintptr(len(one)) {
		t.Errorf("what %s answers shares memory with what it was handed", call)
	}
}

// TestAlone is for P16.1 to P16.3: answers are new memory, what is handed in stays
// as it is, and no call hangs on the ones ahead of it.
func TestAlone(t *testing.T) {
	long := strings.Repeat("t", 4000)
	l := rowOf(2, api.Account{Addr: wallet(1), Balance: 40})
	p := api.Pool{Txs: append(make([]api.Tx, 0, 40), rising(pays(1, 1, 0), pays(1, 1, 1), pays(1, 1, 2)).Txs...)}
	for i := range p.Txs {
		p.Txs[i].To = long[i*100 : i*100+20]
	}
	x := pays(1, 4, 3)
	x.To = long[1000:1020]
	kept := slices.Clone(p.Txs)
	more, _ := pool.Add(p, x)
	some, _ := pool.Take(p, l, each('p'))
	left, _ := pool.Drop(p, l)
	if len(more.Txs) != 4 || len(some) != 3 || len(left.Txs) != 3 {
		t.Fatalf("%s, %s, %s", shown(more.Txs), shown(some), shown(left.Txs))
	}
	if !slices.Equal(p.Txs, kept) || !slices.Equal(p.Txs[:40][3:], make([]api.Tx, 37)) {
		t.Errorf("a pool %s is made of %s", shown(p.Txs), shown(kept))
	}
	for _, one := range more.Txs {
		apart(t, "Add", one.To, long)
	}
	for _, one := range some {
		apart(t, "Take", one.To, long)
	}
	for _, one := range left.Txs {
		apart(t, "Drop", one.To, long)
	}
	for _, made := range [][]api.Tx{more.Txs, some, left.Txs} {
		made[0].Amount++
		made[len(made)-1].Nonce++
	}
	pool.Add(bads()[0], api.Tx{})
	added(t, p, x, rising(append(slices.Clone(kept), x)...), api.OK)
	plainly(t, p, l, each('p'))
}

// TestPlay is for P16.1 to P16.4: transfers wait, are chosen and done, and go.
func TestPlay(t *testing.T) {
	source := rand.New(rand.NewPCG(16, 4))
	var l []api.Account
	for secret := range uint64(4) {
		l = append(l, api.Account{Addr: wallet(secret + 1), Balance: 20})
	}
	l = rowOf(1, l...)
	var p api.Pool
	is := map[api.Errno]int{}
	var done, gone int
	for range 25 {
		for range source.IntN(5) {
			secret := source.Uint64N(4) + 1
			x := signed(secret, wallet(source.Uint64N(4)+1), source.Uint64N(9), state.Of(l, wallet(secret)).Nonce+source.Uint64N(3))
			want, errno := plainAdd(p, x)
			added(t, p, x, want, errno)
			if is[errno]++; errno == api.OK {
				p = want
			}
		}
		proposer := wallet(source.Uint64N(4) + 1)
		some, errno := plainTake(p, l, proposer)
		taken(t, p, l, proposer, some, errno)
		for _, one := range some {
			l, _ = state.Apply(l, one, proposer)
		}
		chosen := len(some)
		left, errno := plainDrop(p, l)
		dropped(t, p, l, left, errno)
		done, gone = done+chosen, gone+len(p.Txs)-len(left.Txs)-chosen
		p = left
	}
	if done < 15 || gone < 3 || is[api.OK] < 30 || is[api.ErrKnown] == 0 || state.Total(l) != 81 {
		t.Errorf("%d are done, %d go; %v", done, gone, is)
	}
}

// FuzzPool is for P16.1 to P16.3: each two bytes are a transfer of three secrets,
// which is put in, in order or not; the row has what is told of them.
func FuzzPool(f *testing.F) {
	f.Add("\x00\x01\x12\x03\x24\x05", uint64(10), uint64(0), byte(1), true)
	f.Add("\x00\x01\x10\x03\x20\x05\x01\x01\x11\x03", uint64(3), uint64(1), byte(2), false)
	f.Fuzz(func(t *testing.T, s string, balance, nonce uint64, proposer byte, order bool) {
		var p api.Pool
		for ; len(s) >= 2 && len(p.Txs) < 18; s = s[2:] {
			x := signed(uint64(s[0]>>4)%3+1, wallet(uint64(s[1]>>4)%3+1), uint64(s[1]&3), uint64(s[0]&3))
			if s[1]&12 == 12 {
				x.Sig.R[0] += uint64(s[1] & 1)
			}
			want, errno := plainAdd(p, x)
			added(t, p, x, want, errno)
			if order && errno == api.OK {
				p = want
			} else if !order {
				p.Txs = append(p.Txs, x)
			}
		}
		if pool.Right(p) != plainRight(p) {
			t.Fatalf("Right of %s answers %t", shown(p.Txs), !plainRight(p))
		}
		l := rowOf(int(proposer%24), api.Account{Addr: wallet(1), Balance: balance, Nonce: nonce}, api.Account{Addr: wallet(2), Balance: balance >> 1, Nonce: 1})
		plainly(t, p, l, wallet(uint64(proposer)%3+1))
	})
}

func BenchmarkAdd(b *testing.B) {
	p, x := rising(many(15)...), pays(1, 4, 9)
	for b.Loop() {
		pool.Add(p, x)
	}
}

func BenchmarkTake(b *testing.B) {
	p, l := rising(many(16)...), rowOf(2, api.Account{Addr: wallet(1), Balance: 40})
	for b.Loop() {
		pool.Take(p, l, each('p'))
	}
}
