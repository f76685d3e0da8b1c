package state_test

import (
	"fmt"
	"math/rand/v2"
	"slices"
	"testing"

	"ecclesia/api"
	"ecclesia/sign"
	"ecclesia/state"
	"ecclesia/tx"
)

// written is what a transfer is signed from.
type written struct {
	secret        uint64
	to            string
	amount, nonce uint64
}

// ready is transfers that were signed, as signing takes its time.
var ready = map[written]api.Tx{}

// signed is a secret's transfer.
func signed(secret uint64, to string, amount, nonce uint64) api.Tx {
	w := written{secret, to, amount, nonce}
	if made, is := ready[w]; is {
		return made
	}
	made, errno := tx.Sign(api.U{secret}, to, amount, nonce)
	if errno != api.OK {
		panic(fmt.Sprint(w, errno))
	}
	ready[w] = made
	return made
}

// applied holds Apply against what is wanted.
func applied(t *testing.T, l []api.Account, x api.Tx, proposer string, want []api.Account, errno api.Errno) {
	t.Helper()
	kept := slices.Clone(l)
	got, e := state.Apply(l, x, proposer)
	if !slices.Equal(got, want) || e != errno {
		t.Fatalf("Apply to %s of To %x, Amount %d, Nonce %d, by %x answers %s, %d, not %s, %d", shown(l), x.To, x.Amount, x.Nonce, proposer, shown(got), e, shown(want), errno)
	}
	if !slices.Equal(l, kept) {
		t.Fatalf("Apply makes a row %s of %s", shown(l), shown(kept))
	}
	if e == api.OK {
		done(t, l, got, x, proposer)
	}
}

// done holds what follows of a transfer that is done.
func done(t *testing.T, l, got []api.Account, x api.Tx, proposer string) {
	t.Helper()
	sender, _ := tx.Sender(x)
	if !state.Right(got) || state.Total(got) != state.Total(l) {
		t.Fatalf("Apply to %s answers %s", shown(l), shown(got))
	}
	for _, one := range slices.Concat(l, got) {
		if one.Addr != sender && one.Addr != x.To && one.Addr != proposer && state.Of(l, one.Addr) != state.Of(got, one.Addr) {
			t.Fatalf("Apply to %s answers %s, with another account of %x", shown(l), shown(got), one.Addr)
		}
	}
	if twice, e := state.Apply(got, x, proposer); len(twice) != 0 || e != api.ErrNonce {
		t.Fatalf("Apply to %s answers %s, %d the second time", shown(l), shown(twice), e)
	}
}

// expected holds Apply against what the chapter says, and tells that.
func expected(t *testing.T, l []api.Account, x api.Tx, proposer string) ([]api.Account, api.Errno) {
	t.Helper()
	want, errno := plainApply(l, x, proposer)
	applied(t, l, x, proposer, want, errno)
	return want, errno
}

// TestApplyTold is for P15.2 and P15.4: rows that are written out, one behind the
// other.
func TestApplyTold(t *testing.T) {
	// They stand as their bytes do: 2B5A.., 6813.., 7E5F...
	two, three, one := hexed("2B5AD5C4795C026514F8317C7A215E218DCCD6CF"), hexed("6813EB9362372EEF6200F3B1DBC3F819671CBA69"), hexed("7E5F4552091A69125D5DFCB7B8C2659029395BDF")
	to, proposer := of('t'), of('p')
	l := []api.Account{{Addr: one, Balance: 10}}
	steps := []struct {
		x        api.Tx
		proposer string
		want     []api.Account
	}{
		{signed(1, to, 4, 0), proposer, []api.Account{{Addr: proposer, Balance: 1}, {Addr: to, Balance: 4}, {Addr: one, Balance: 5, Nonce: 1}}},
		{signed(1, two, 2, 1), proposer, []api.Account{{Addr: two, Balance: 2}, {Addr: proposer, Balance: 2}, {Addr: to, Balance: 4}, {Addr: one, Balance: 2, Nonce: 2}}},
		// All that it has; its account stays, as it has done a transfer.
		{signed(2, three, 1, 0), proposer, []api.Account{{Addr: two, Nonce: 1}, {Addr: three, Balance: 1}, {Addr: proposer, Balance: 3}, {Addr: to, Balance: 4}, {Addr: one, Balance: 2, Nonce: 2}}},
		// Nothing to one that has nothing: it gets no account.
		{signed(3, of(1), 0, 0), one, []api.Account{{Addr: two, Nonce: 1}, {Addr: three, Nonce: 1}, {Addr: proposer, Balance: 3}, {Addr: to, Balance: 4}, {Addr: one, Balance: 3, Nonce: 2}}},
		// To itself, and its own proposer.
		{signed(1, one, 2, 2), one, []api.Account{{Addr: two, Nonce: 1}, {Addr: three, Nonce: 1}, {Addr: proposer, Balance: 3}, {Addr: to, Balance: 4}, {Addr: one, Balance: 3, Nonce: 3}}},
		{signed(1, two, 2, 3), two, []api.Account{{Addr: two, Balance: 3, Nonce: 1}, {Addr: three, Nonce: 1}, {Addr: proposer, Balance: 3}, {Addr: to, Balance: 4}, {Addr: one, Nonce: 4}}},
	}
	for _, step := range steps {
		applied(t, l, step.x, step.proposer, step.want, api.OK)
		l = step.want
	}
	for _, step := range steps {
		applied(t, l, step.x, step.proposer, nil, api.ErrNonce)
	}
}

// TestApplyWho is for P15.2: sender, To and proposer are one, two or three, each of
// which has an account or none, and amounts are such that can be done, or can't.
func TestApplyWho(t *testing.T) {
	sender := wallet(1)
	is := map[api.Errno]int{}
	for _, to := range []string{sender, of(1), of(0xfe)} {
		for _, proposer := range []string{sender, of(1), of(0xfe), of(0), of(0xff), of(0x80)} {
			for have := range 8 {
				l := sorted(api.Account{Addr: sender, Balance: 9, Nonce: 5}, api.Account{Addr: of(0x30), Balance: 4, Nonce: 3})
				for i, addr := range []string{to, proposer} {
					if have>>i&1 == 1 && state.Of(l, addr) == (api.Account{Addr: addr}) {
						l = sorted(append(l, api.Account{Addr: addr, Balance: uint64(have & 4), Nonce: 7})...)
					}
				}
				for _, amount := range []uint64{0, 1, 7, 8, 9} {
					_, errno := expected(t, l, signed(1, to, amount, 5), proposer)
					is[errno]++
				}
			}
		}
	}
	if is[api.OK] < 500 || is[api.ErrFunds] < 100 || len(is) != 2 {
		t.Errorf("transfers that can be done, and others: %v", is)
	}
}

// TestApplyArg is for P15.2: rows, transfers and proposers that may not be, which
// comes ahead of all other errors.
func TestApplyArg(t *testing.T) {
	l := []api.Account{{Addr: wallet(1), Balance: 10}}
	x := signed(1, of('t'), 4, 0)
	expected(t, l, x, of('p'))
	for _, bad := range bads() {
		applied(t, bad, x, of('p'), nil, api.ErrArg)
		applied(t, append(slices.Clone(bad), l...), x, of('p'), nil, api.ErrArg)
	}
	wrong := []api.Tx{{}, {To: of('t')}, {To: of('t'), Sig: api.Sig{R: x.Sig.R, S: x.Sig.S, V: 2}}, {To: of('t'), Sig: api.Sig{R: x.Sig.R, S: x.Sig.S, V: -1}},
		{To: of('t'), Sig: api.Sig{R: x.Sig.R}}, {To: of('t'), Sig: api.Sig{S: x.Sig.S}}, {To: of('t'), Sig: api.Sig{R: x.Sig.R, S: api.U{0, 0, 0, 1 << 63}}}}
	for _, addr := range noAddresses() {
		applied(t, l, x, addr, nil, api.ErrArg)
		wrong = append(wrong, api.Tx{To: addr, Amount: x.Amount, Nonce: x.Nonce, Sig: x.Sig}, api.Tx{To: addr, Sig: unsigned().Sig})
		applied(t, l, unsigned(), addr, nil, api.ErrArg)
		applied(t, nil, signed(1, of('t'), 4, 9), addr, nil, api.ErrArg)
		applied(t, nil, signed(1, of('t'), 4, 0), addr, nil, api.ErrArg)
	}
	for _, other := range wrong {
		applied(t, l, other, of('p'), nil, api.ErrArg)
		applied(t, nil, other, of('p'), nil, api.ErrArg)
	}
	for _, bad := range bads()[:20] {
		applied(t, bad, unsigned(), of('p'), nil, api.ErrArg)
		applied(t, bad, signed(1, of('t'), most, 1), of('p'), nil, api.ErrArg)
	}
}

// unsigned is a transfer that may be, of no sender.
func unsigned() api.Tx {
	x := api.Tx{To: of('t'), Sig: api.Sig{R: api.U{1}, S: api.U{1}}}
	for {
		if _, errno := tx.Sender(x); errno == api.ErrSign {
			return x
		}
		x.Sig.R[0]++
	}
}

// TestApplySign is for P15.2: transfers of no sender.
func TestApplySign(t *testing.T) {
	x := unsigned()
	for _, l := range goods() {
		applied(t, l, x, of('p'), nil, api.ErrSign)
	}
	for _, nonce := range []uint64{0, 1, most} {
		for _, amount := range []uint64{0, 1, most} {
			x.Nonce, x.Amount = nonce, amount
			if _, errno := expected(t, many(24), x, of('p')); errno != api.ErrSign {
				t.Errorf("Nonce %d, Amount %d: %d", nonce, amount, errno)
			}
		}
	}
}

// TestApplyNonce is for P15.2: nonces that are not the sender's, and the last one,
// which comes ahead of too little and of too many.
func TestApplyNonce(t *testing.T) {
	sender := wallet(1)
	nonces := []uint64{0, 1, 2, 3, 127, 128, 255, 256, 1 << 32, 1<<32 + 1, 1 << 63, most - 2, most - 1, most}
	for _, has := range nonces {
		for _, nonce := range nonces {
			errno := api.OK
			if has != nonce || has == most {
				errno = api.ErrNonce
			}
			if _, e := expected(t, []api.Account{{Addr: sender, Balance: 6, Nonce: has}}, signed(1, of(1), 5, nonce), of(2)); e != errno {
				t.Errorf("Nonce %d, transfer's %d: %d", has, nonce, e)
			}
			if errno != api.OK {
				applied(t, []api.Account{{Addr: sender, Balance: 6, Nonce: has}, {Addr: of(0xff), Balance: 1, Nonce: nonce}}, signed(1, of(1), most, nonce), of(2), nil, api.ErrNonce)
			}
		}
	}
	applied(t, nil, signed(1, of(1), 5, 1), of(2), nil, api.ErrNonce)
	applied(t, nil, signed(1, of(1), 0, most), of(2), nil, api.ErrNonce)
	full := sorted(append(many(23), api.Account{Addr: sender, Balance: 60, Nonce: 4})...)
	applied(t, full, signed(1, of(0), 5, 5), of(2), nil, api.ErrNonce)
	applied(t, full, signed(1, of(0), 5, 4), of(2), nil, api.ErrFull)
}

// TestApplyFunds is for P15.2: amounts about what the sender has, as numbers that do
// not go round, which comes ahead of too many.
func TestApplyFunds(t *testing.T) {
	sender := wallet(2)
	for _, has := range []uint64{0, 1, 2, 3, 100, 1 << 32, 1<<32 + 1, all - 1, all} {
		l := []api.Account{{Addr: sender, Balance: has, Nonce: 2}}
		for _, amount := range []uint64{0, 1, has - 2, has - 1, has, has + 1, 1 << 32, 1<<63 - 1, 1 << 63, most - 1, most} {
			errno := api.ErrFunds
			if amount < has {
				errno = api.OK
			}
			if _, e := expected(t, l, signed(2, of(1), amount, 2), of(2)); e != errno {
				t.Errorf("Balance %d, Amount %d: %d", has, amount, e)
			}
		}
	}
	for _, amount := range []uint64{0, 1, most} {
		applied(t, nil, signed(2, of(1), amount, 0), of(2), nil, api.ErrFunds)
		applied(t, many(24), signed(2, of(1), amount, 0), of(2), nil, api.ErrFunds)
		// What it would get itself does not help.
		applied(t, []api.Account{{Addr: sender, Nonce: 1}}, signed(2, sender, amount, 1), sender, nil, api.ErrFunds)
	}
	applied(t, []api.Account{{Addr: sender, Balance: 5, Nonce: 1}}, signed(2, sender, 5, 1), sender, nil, api.ErrFunds)
	full := sorted(append(many(23), api.Account{Addr: sender, Balance: 5})...)
	applied(t, full, signed(2, of(0), 5, 0), of(2), nil, api.ErrFunds)
	applied(t, full, signed(2, of(0), 4, 0), of(2), nil, api.ErrFull)
}

// TestApplyFull is for P15.2: rows that have room for two more, one, or none.
func TestApplyFull(t *testing.T) {
	sender, known, other := wallet(3), of(1), of(4)
	cases := []struct {
		to       string
		amount   uint64
		proposer string
		more     int
	}{
		{known, 5, other, 0}, {known, 5, known, 0}, {known, 5, sender, 0}, {sender, 5, known, 0}, {sender, 5, sender, 0},
		{of(0), 5, known, 1}, {known, 5, of(0), 1}, {of(0), 5, of(0), 1}, {of(0xff), 5, sender, 1}, {sender, 5, of(0xff), 1},
		{of(0), 5, of(0xff), 2}, {of(0xff), 5, of(0), 2}, {of(2), 1, of(3), 2},
		// One that gets nothing does not count, but for its fee.
		{of(0), 0, known, 0}, {of(0), 0, of(0), 1}, {of(0), 0, of(0xff), 1}, {known, 0, of(0), 1},
	}
	for size := 20; size <= 24; size++ {
		l := sorted(append(many(size-1), api.Account{Addr: sender, Balance: 60, Nonce: 4})...)
		for _, c := range cases {
			got, errno := expected(t, l, signed(3, c.to, c.amount, 4), c.proposer)
			if size+c.more > 24 {
				if errno != api.ErrFull {
					t.Errorf("%d accounts and %d: %d", size, c.more, errno)
				}
			} else if errno != api.OK || len(got) != size+c.more {
				t.Errorf("%d accounts and %d: %d, %d", size, c.more, len(got), errno)
			}
		}
	}
}

// TestApplyOf is for P15.2: any signature that leads to an address is that one's.
func TestApplyOf(t *testing.T) {
	var is [2]int
	for r := range uint64(30) {
		x := api.Tx{To: of('t'), Amount: 3, Nonce: 1, Sig: api.Sig{R: api.U{r + 1}, S: api.U{5}, V: int(r % 2)}}
		l := many(3)
		sender, errno := tx.Sender(x)
		if errno == api.OK {
			l = sorted(append(l, api.Account{Addr: sender, Balance: 4, Nonce: 1})...)
			is[0]++
		} else {
			is[1]++
		}
		if _, e := expected(t, l, x, of('p')); e != errno {
			t.Errorf("R %d: %d, not %d", r+1, e, errno)
		}
		if errno == api.OK {
			applied(t, many(3), x, of('p'), nil, api.ErrNonce)
		}
	}
	if is[0] < 5 || is[1] < 5 {
		t.Errorf("R that have senders, and others: %v", is)
	}
}

// TestPlay is for P15.4: transfers one behind the other, of which each one can be
// done once, and what all accounts have together stays.
func TestPlay(t *testing.T) {
	source := rand.New(rand.NewPCG(15, 4))
	people := []string{of(1), of(2), of(0xf0)}
	var l []api.Account
	for secret := range uint64(4) {
		people = append(people, wallet(secret+1))
		l = append(l, api.Account{Addr: wallet(secret + 1), Balance: 100})
	}
	sorted(l...)
	var past []api.Tx
	is := map[api.Errno]int{}
	for range 150 {
		secret := source.Uint64N(4) + 1
		from := state.Of(l, wallet(secret))
		nonce := from.Nonce
		if source.IntN(8) == 0 {
			nonce += source.Uint64N(3) - 1
		}
		x := signed(secret, people[source.IntN(len(people))], source.Uint64N(from.Balance+3), nonce)
		got, errno := expected(t, l, x, people[source.IntN(len(people))])
		is[errno]++
		if errno == api.OK {
			l, past = got, append(past, x)
			plainly(t, l)
		}
	}
	if is[api.OK] < 60 || is[api.ErrNonce] < 5 || is[api.ErrFunds] < 5 || state.Total(l) != 400 {
		t.Errorf("%v, and %d in all", is, state.Total(l))
	}
	for _, x := range past {
		applied(t, l, x, of(9), nil, api.ErrNonce)
	}
}

// FuzzApply is for P15.2: a row of some accounts, the sender's among them, and a
// transfer of any amounts.
func FuzzApply(f *testing.F) {
	f.Add(uint64(10), uint64(0), uint64(4), uint64(0), byte('t'), byte('p'), byte(3), false)
	f.Add(uint64(all), uint64(most), uint64(most), uint64(most), byte(1), byte(1), byte(24), true)
	f.Add(uint64(60), uint64(2), uint64(5), uint64(2), byte(0), byte(2), byte(23), false)
	sender, _ := sign.Address(api.U{7})
	f.Fuzz(func(t *testing.T, balance, had, amount, nonce uint64, to, proposer, size byte, self bool) {
		l := sorted(append(many(int(size%27)), api.Account{Addr: sender, Balance: balance, Nonce: had})...)
		x, _ := tx.Sign(api.U{7}, of(to), amount, nonce)
		if self {
			x, _ = tx.Sign(api.U{7}, sender, amount, nonce)
		}
		expected(t, l, x, of(proposer))
		x.Sig.R[0] ^= uint64(size)
		expected(t, l, x, of(proposer))
	})
}
