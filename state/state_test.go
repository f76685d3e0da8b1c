package state_test

import (
	"encoding/hex"
	"fmt"
	"math"
	"math/rand/v2"
	"slices"
	"strings"
	"testing"
	"unsafe"

	"ecclesia/api"
	"ecclesia/sign"
	"ecclesia/state"
)

const (
	most = math.MaxUint64
	// all is how much all accounts have together at most.
	all = 1 << 62
)

// hexed are the bytes that are written in hexadecimal.
func hexed(digits string) string {
	made, err := hex.DecodeString(digits)
	if err != nil {
		panic(digits)
	}
	return string(made)
}

// of is the address of twenty times one byte.
func of(one byte) string { return strings.Repeat(string([]byte{one}), 20) }

// wallet is a secret's address.
func wallet(secret uint64) string {
	made, errno := sign.Address(api.U{secret})
	if errno != api.OK {
		panic(secret)
	}
	return made
}

// sorted is accounts as a rising row.
func sorted(l ...api.Account) []api.Account {
	slices.SortFunc(l, func(a, b api.Account) int { return strings.Compare(a.Addr, b.Addr) })
	return l
}

// many is a row of so many accounts, none of them a wallet's, each with some more
// than the one ahead of it.
func many(size int) []api.Account {
	var made []api.Account
	for i := range size {
		made = append(made, api.Account{Addr: of(byte(3*i + 1)), Balance: uint64(i) * 7, Nonce: uint64(size - i)})
	}
	return made
}

// with is a row with one of its accounts another one.
func with(l []api.Account, at int, one api.Account) []api.Account {
	made := slices.Clone(l)
	made[at] = one
	return made
}

// noAddresses are texts that have not 20 bytes, some of them 20 runes.
func noAddresses() []string {
	list := []string{"", strings.Repeat("\xC3\xA4", 20), of(5) + of(5)}
	for _, size := range []int{1, 2, 10, 18, 19, 21, 22, 32, 64, 256 + 20, 65536 + 20} {
		list = append(list, strings.Repeat("a", size), strings.Repeat("\x00", size))
	}
	return list
}

// goods are rows that may be: of all sizes, with the edges.
func goods() [][]api.Account {
	list := [][]api.Account{nil, {},
		{{Addr: of(0), Balance: 1}}, {{Addr: of(0), Nonce: 1}}, {{Addr: of(0xff), Balance: all, Nonce: most}},
		{{Addr: of(0), Nonce: most}, {Addr: of(0xff), Nonce: most}},
		{{Addr: of(1), Balance: all - 1}, {Addr: of(2), Balance: 1}},
		{{Addr: of(1), Balance: 1}, {Addr: of(2), Balance: all - 1}},
		{{Addr: of(1), Balance: all / 2}, {Addr: of(2), Nonce: 9}, {Addr: of(3), Balance: all / 2}},
		// Bytes rise as numbers without a sign, up to the last one.
		{{Addr: of(0x7f), Balance: 3}, {Addr: of(0x80), Balance: 2}},
		{{Addr: of(9)[:19] + "\x7f", Balance: 3}, {Addr: of(9)[:19] + "\x80", Balance: 2}, {Addr: of(9)[:18] + "\x0a\x00", Balance: 1}},
	}
	for size := range 25 {
		list = append(list, many(size))
	}
	full := many(24)
	for i := range full {
		full[i].Balance, full[i].Nonce = all/24, most
	}
	return append(list, full)
}

// bads are rows that may not be, each for one reason but for the first ones.
func bads() [][]api.Account {
	list := [][]api.Account{{{}}, {{}, {}}, many(25), many(26), many(60),
		{{Addr: of(1)}}, {{Addr: of(1), Balance: 1}, {Addr: of(2)}}, {{Addr: of(1)}, {Addr: of(2), Balance: 1}},
		{{Addr: of(1), Balance: 1}, {Addr: of(1), Balance: 1}}, {{Addr: of(1), Balance: 1}, {Addr: of(1), Nonce: 1}},
		{{Addr: of(2), Balance: 1}, {Addr: of(1), Balance: 1}}, {{Addr: of(0x80), Balance: 2}, {Addr: of(0x7f), Balance: 3}},
		{{Addr: of(9)[:19] + "\x80", Balance: 2}, {Addr: of(9)[:19] + "\x7f", Balance: 3}},
		{{Addr: of(1), Balance: 1}, {Addr: of(3), Balance: 1}, {Addr: of(2), Balance: 1}},
		{{Addr: of(1), Balance: 1}, {Addr: of(2), Balance: 1}, {Addr: of(1), Balance: 1}},
		{{Addr: of(1), Balance: all + 1}}, {{Addr: of(1), Balance: 1 << 63}}, {{Addr: of(1), Balance: most}},
		{{Addr: of(1), Balance: all}, {Addr: of(2), Balance: 1}}, {{Addr: of(1), Balance: 1}, {Addr: of(2), Balance: all}},
		{{Addr: of(1), Balance: all / 2}, {Addr: of(2), Balance: all / 2}, {Addr: of(3), Balance: 1}},
		// Sums that go round, to what would be little enough.
		{{Addr: of(1), Balance: 1 << 63}, {Addr: of(2), Balance: 1 << 63}},
		{{Addr: of(1), Balance: most}, {Addr: of(2), Balance: 1}}, {{Addr: of(1), Balance: 1}, {Addr: of(2), Balance: most}},
		{{Addr: of(1), Balance: all}, {Addr: of(2), Balance: all}, {Addr: of(3), Balance: all}, {Addr: of(4), Balance: all}},
		{{Addr: of(1), Balance: most}, {Addr: of(2), Balance: most}, {Addr: of(3), Balance: 5}},
	}
	for _, addr := range noAddresses() {
		list = append(list, []api.Account{{Addr: addr, Balance: 1}})
	}
	for at := range 24 {
		list = append(list, with(many(24), at, api.Account{Addr: of(byte(3*at + 1))}))
		list = append(list, with(many(24), at, api.Account{Addr: of(byte(3*at + 1))[:19], Nonce: 1}))
		list = append(list, with(many(24), at, api.Account{Addr: of(byte(3*at+1)) + "\x00", Nonce: 1}))
		list = append(list, with(many(24), at, api.Account{Addr: of(byte(3*(at+1)%72 + 1)), Nonce: 1}))
		list = append(list, with(many(24), at, api.Account{Addr: of(byte(3*at + 1)), Balance: all + 1}))
		list = append(list, with(many(24), at, api.Account{Addr: of(byte(3*at + 1)), Balance: most}))
	}
	return list
}

// shown is a row as far as a message needs it.
func shown(l []api.Account) string {
	if len(l) > 30 {
		return fmt.Sprintf("%d accounts", len(l))
	}
	var made []string
	for _, one := range l {
		made = append(made, fmt.Sprintf("%.20x(%d): %d, %d", one.Addr, len(one.Addr), one.Balance, one.Nonce))
	}
	return "[" + strings.Join(made, "; ") + "]"
}

// root holds Root against what is wanted.
func root(t *testing.T, l []api.Account, want string, errno api.Errno) {
	t.Helper()
	if got, e := state.Root(l); got != want || e != errno {
		t.Fatalf("Root of %s answers %X, %d, not %X, %d", shown(l), got, e, want, errno)
	}
}

// found holds Of against what is wanted.
func found(t *testing.T, l []api.Account, addr string, want api.Account) {
	t.Helper()
	if got := state.Of(l, addr); got != want {
		t.Fatalf("Of %s, %x answers %s, not %s", shown(l), addr, shown([]api.Account{got}), shown([]api.Account{want}))
	}
}

// plainly holds all calls but Apply against what the chapter says.
func plainly(t *testing.T, l []api.Account) {
	t.Helper()
	if got := state.Right(l); got != plainRight(l) {
		t.Fatalf("Right of %s answers %t", shown(l), got)
	}
	if got, want := state.Total(l), plainTotal(l); got != want {
		t.Fatalf("Total of %s answers %d, not %d", shown(l), got, want)
	}
	for _, one := range l {
		found(t, l, one.Addr, plainOf(l, one.Addr))
		found(t, l, one.Addr+"\x00", plainOf(l, one.Addr+"\x00"))
	}
	want, errno := plainRoot(l)
	root(t, l, want, errno)
}

// TestRight is for P15.1: rows that may be, and such that may not.
func TestRight(t *testing.T) {
	for _, l := range goods() {
		if !state.Right(l) {
			t.Errorf("%s may not be", shown(l))
		}
		plainly(t, l)
	}
	for _, l := range bads() {
		if state.Right(l) {
			t.Errorf("%s may be", shown(l))
		}
		plainly(t, l)
	}
}

// TestTotal is for P15.1: sums that are written out, also of rows that may not be.
func TestTotal(t *testing.T) {
	cases := []struct {
		balances []uint64
		want     uint64
	}{
		{nil, 0}, {[]uint64{0}, 0}, {[]uint64{7}, 7}, {[]uint64{1, 2, 3}, 6}, {[]uint64{most}, most}, {[]uint64{most, 1}, 0},
		{[]uint64{most, most}, most - 1}, {[]uint64{1 << 63, 1 << 63, 5}, 5}, {[]uint64{all, all, all, all}, 0}, {[]uint64{all - 1, 1}, all},
	}
	for _, c := range cases {
		var l []api.Account
		for _, balance := range c.balances {
			l = append(l, api.Account{Balance: balance, Nonce: 3})
		}
		if got := state.Total(l); got != c.want {
			t.Errorf("Total of %v answers %d, not %d", c.balances, got, c.want)
		}
	}
}

// TestOf is for P15.1: an address's first account, also in rows that may not be,
// or one that has nothing.
func TestOf(t *testing.T) {
	a, b, c := api.Account{Addr: of(1), Balance: 5, Nonce: 6}, api.Account{Addr: of(3), Balance: 7}, api.Account{Addr: of(5), Nonce: 8}
	l := []api.Account{a, b, c}
	for _, one := range l {
		found(t, l, one.Addr, one)
	}
	missing := append(noAddresses(), of(0), of(2), of(4), of(6), of(1)[:19]+"\x00", of(1)[:19]+"\x02", of(1)[:19], of(1)+"\x01")
	for _, addr := range missing {
		found(t, l, addr, api.Account{Addr: addr})
		found(t, nil, addr, api.Account{Addr: addr})
	}
	a2, empty := api.Account{Addr: of(1), Balance: 50, Nonce: 60}, api.Account{Addr: of(1)}
	found(t, []api.Account{a, a2}, of(1), a)
	found(t, []api.Account{a2, a}, of(1), a2)
	found(t, []api.Account{c, empty, a, a2}, of(1), empty)
	// Not by halves, as the row does not rise.
	found(t, []api.Account{c, b, a}, of(1), a)
	found(t, []api.Account{c, b, a}, of(5), c)
	found(t, []api.Account{{Addr: "", Balance: 4}}, "", api.Account{Balance: 4})
	found(t, []api.Account{{Addr: "x", Nonce: 4}}, "x", api.Account{Addr: "x", Nonce: 4})
}

// TestRootTold is for P15.3: sums that are written out.
func TestRootTold(t *testing.T) {
	root(t, nil, hexed("56E81F171BCC55A6FF8345E692C0F86E5B48E01B996CADC001622FB5E363B421"), api.OK)
	root(t, []api.Account{{Addr: wallet(1), Balance: 10}}, hexed("70884B5E8E98054416EB69E62B599551819C16EBC640CE0E80E22E0A2F723D83"), api.OK)
	root(t, sorted(api.Account{Addr: wallet(1), Balance: 5, Nonce: 1}, api.Account{Addr: of('p'), Balance: 1}, api.Account{Addr: of('t'), Balance: 4}),
		hexed("D8764970D94F3340ED9033B5F8359CBBC0BADE731CD6870571CBE11FF664522A"), api.OK)
	root(t, []api.Account{{Addr: of(0), Balance: all}, {Addr: of(0x7f), Nonce: most}, {Addr: of(0xff), Nonce: 1}},
		hexed("12040157E21E008733544AD9A82D4AE3E2503FC549D41CA93F677EB3A8458CF5"), api.OK)
	root(t, []api.Account{{Addr: of('a'), Nonce: 128}, {Addr: of('b'), Balance: 256}, {Addr: of('c'), Balance: 127, Nonce: 255}},
		hexed("B68541081F41AF75A1E595D52F54245C659F07FED13511DC6A14713DE6A5098C"), api.OK)
	// Balance and Nonce turned about are another account.
	root(t, []api.Account{{Addr: of('a'), Balance: 3, Nonce: 4}}, hexed("B5C9A4B0913A8F63BD50492C3DBD61E1EE4959AE842C7A5CBBC2AAE140F51733"), api.OK)
	root(t, []api.Account{{Addr: of('a'), Balance: 4, Nonce: 3}}, hexed("C98EF44CC719FBD03B38BE8BD9253FDDD4ADA49660F3D7309A97139A0476A206"), api.OK)
	var full []api.Account
	for i := range 24 {
		full = append(full, api.Account{Addr: of(byte(i)), Balance: uint64(i)*1000 + 1, Nonce: uint64(i * i)})
	}
	root(t, full, hexed("029623132BDE0FB8F59EE8E45DDE09B4AE64968948C45D9B6D164299295AC1EA"), api.OK)
}

// TestRoot is for P15.3: rows that may not be have none, and unlike rows have
// unlike ones.
func TestRoot(t *testing.T) {
	for _, l := range bads() {
		root(t, l, "", api.ErrArg)
	}
	roots := map[string]bool{}
	for _, l := range goods()[1:] {
		made, _ := state.Root(l)
		roots[made] = true
	}
	// Two of them are empty.
	if len(roots) != len(goods())-2 {
		t.Errorf("%d sums of %d rows", len(roots), len(goods())-2)
	}
	l := many(24)
	for at, one := range l {
		for _, other := range []api.Account{{Addr: one.Addr, Balance: one.Balance + 1, Nonce: one.Nonce}, {Addr: one.Addr, Balance: one.Balance, Nonce: one.Nonce + 1},
			{Addr: one.Addr[:19] + "\xff", Balance: one.Balance, Nonce: one.Nonce}} {
			made, e := state.Root(with(l, at, other))
			if e != api.OK || roots[made] {
				t.Errorf("account %d as another one leaves the sum; %d", at, e)
			}
			roots[made] = true
		}
	}
}

// TestLong is for P15.1 to P15.3: rows of very many accounts.
func TestLong(t *testing.T) {
	l := make([]api.Account, 1<<20)
	for i := range l {
		l[i] = api.Account{Addr: of(1), Balance: 1<<50 + 1, Nonce: uint64(i)}
	}
	l[1<<20-1].Addr = of(2)
	if state.Right(l) || state.Total(l) != 1<<20 {
		t.Errorf("Right answers %t, Total %d", state.Right(l), state.Total(l))
	}
	found(t, l, of(2), api.Account{Addr: of(2), Balance: 1<<50 + 1, Nonce: 1<<20 - 1})
	root(t, l, "", api.ErrArg)
	applied(t, l, signed(1, of(2), 5, 0), of(3), nil, api.ErrArg)
}

// TestRandomRows is for P15.1 and P15.3: rows of all kinds of accounts.
func TestRandomRows(t *testing.T) {
	source := rand.New(rand.NewPCG(15, 1))
	var is [2]int
	for range 2000 {
		var l []api.Account
		for range source.IntN(5) {
			l = append(l, api.Account{Addr: of(byte(source.IntN(30))), Balance: source.Uint64() >> source.UintN(65), Nonce: source.Uint64() >> source.UintN(65)})
		}
		if source.IntN(4) > 0 {
			sorted(l...)
		}
		plainly(t, l)
		if state.Right(l) {
			is[0]++
		} else {
			is[1]++
		}
	}
	if is[0] < 300 || is[1] < 300 {
		t.Errorf("rows that may be, and others: %v", is)
	}
}

// apart holds that two texts share no memory.
func apart(t *testing.T, call, one, other string) {
	t.Helper()
	start, begun := uintptr(unsafe.Pointer(unsafe.StringData(one))), uintptr(unsafe.Pointer(unsafe.StringData(other)))
	if start < begun+uintptr(len(other)) && begun < start+uintptr(len(one)) {
		t.Errorf("what %s answers shares memory with what it was handed", call)
	}
}

// TestAlone is for P15.1 to P15.3: answers are new memory, a row that is handed in
// stays as it is, and no call hangs on the ones ahead of it.
func TestAlone(t *testing.T) {
	long := strings.Repeat("t", 4000)
	to, proposer := long[1000:1020], strings.Repeat("p", 4000)[:20]
	row := append(make([]api.Account, 0, 40), sorted(api.Account{Addr: wallet(1), Balance: 10}, api.Account{Addr: of(1), Balance: 2})...)
	kept := slices.Clone(row)
	x := signed(1, to, 4, 0)
	x.To = to
	one, _ := state.Apply(row, x, proposer)
	two, _ := state.Apply(row, x, proposer)
	if !slices.Equal(row, kept) || !slices.Equal(row[:40][2:], make([]api.Account, 38)) {
		t.Errorf("Apply makes a row %s of %s", shown(row), shown(kept))
	}
	for _, got := range one {
		apart(t, "Apply", got.Addr, to)
		apart(t, "Apply", got.Addr, proposer)
		for _, had := range row {
			apart(t, "Apply", got.Addr, had.Addr)
		}
	}
	apart(t, "Of", state.Of(row, to).Addr, to)
	apart(t, "Of", state.Of(row, row[0].Addr).Addr, row[0].Addr)
	one[0].Balance++
	state.Apply(nil, api.Tx{}, "")
	state.Root(many(25))
	three, e := state.Apply(row, x, proposer)
	if !slices.Equal(two, three) || e != api.OK || one[0] == two[0] {
		t.Errorf("Apply answers %s, then %s, %d", shown(two), shown(three), e)
	}
	want, _ := plainRoot(row)
	root(t, row, want, api.OK)
	if !slices.Equal(row, kept) {
		t.Errorf("Root makes a row %s of %s", shown(row), shown(kept))
	}
}

// FuzzRow is for P15.1 and P15.3: each 20 bytes are an address, of some length, with
// what it has; a row may be in order first.
func FuzzRow(f *testing.F) {
	f.Add(strings.Repeat("abcdefghijklmnopqrst", 5), true)
	f.Add(strings.Repeat("\x00", 60), false)
	f.Fuzz(func(t *testing.T, s string, order bool) {
		var l []api.Account
		for ; len(s) >= 20; s = s[20:] {
			one := api.Account{Addr: of(s[0])}
			if s[1] == 0xff {
				one.Addr = s[2 : 2+s[2]%18]
			}
			for i := range 8 {
				one.Balance = one.Balance<<8 + uint64(s[3+i])
				one.Nonce = one.Nonce<<8 + uint64(s[11+i])
			}
			one.Balance >>= s[19] % 65
			l = append(l, one)
		}
		if order {
			sorted(l...)
		}
		plainly(t, l)
	})
}

func BenchmarkRoot(b *testing.B) {
	l := many(24)
	for b.Loop() {
		state.Root(l)
	}
}

func BenchmarkApply(b *testing.B) {
	l := append(many(23), api.Account{Addr: wallet(1), Balance: 100})
	x := signed(1, of(1), 5, 0)
	for b.Loop() {
		state.Apply(l, x, of(4))
	}
}
