package sign_test

import (
	"encoding/hex"
	"math"
	"math/big"
	"math/rand/v2"
	"strings"
	"testing"

	"ecclesia/api"
	"ecclesia/point"
	"ecclesia/sign"
	"ecclesia/u256"
)

const most = math.MaxUint64

var (
	none = api.Sig{}
	all  = api.U{most, most, most, most}
)

// large is a number as the library has it.
func large(a api.U) *big.Int { return new(big.Int).SetBytes([]byte(u256.Bytes(a))) }

// narrow is a number of the library's, of which 2^256 goes round.
func narrow(a *big.Int) api.U {
	made, _ := u256.From(string(new(big.Int).And(a, large(all)).Bytes()))
	return made
}

// off is a number, and so many.
func off(a *big.Int, by int64) *big.Int { return new(big.Int).Add(a, big.NewInt(by)) }

// shown is a signature of the chapter's reckoning as an api.Sig.
func shown(s signed) api.Sig { return api.Sig{R: narrow(s.r), S: narrow(s.s), V: s.v} }

// reckoned is the way back.
func reckoned(s api.Sig) signed { return signed{large(s.R), large(s.S), s.V} }

// text are the bytes that are written in hexadecimal.
func text(digits string) string {
	made, err := hex.DecodeString(digits)
	if err != nil {
		panic(digits)
	}
	return string(made)
}

// mixed are numbers of 1 to n - 1, of all lengths, the same ones at each run.
func mixed(seed uint64, many int) []*big.Int {
	source := rand.New(rand.NewPCG(7, seed))
	list := make([]*big.Int, many)
	for i := range list {
		whole := large(api.U{source.Uint64(), source.Uint64(), source.Uint64(), source.Uint64()})
		list[i] = whole.Rsh(whole, uint(source.IntN(250)))
		list[i] = off(whole.Mod(whole, off(order, -1)), 1)
	}
	return list
}

// secrets are numbers that are secrets: the edges, and some between.
func secrets() []*big.Int {
	list := []*big.Int{off(order, -1), off(order, -2), half, off(half, 1), off(prime, -1).Rsh(prime, 1)}
	for n := range int64(5) {
		list = append(list, big.NewInt(n+1))
	}
	for _, bits := range []uint{63, 64, 127, 128, 192, 255} {
		list = append(list, new(big.Int).Lsh(big.NewInt(1), bits))
	}
	return append(list, mixed(1, 10)...)
}

// noSecrets are numbers that are none.
func noSecrets() []api.U {
	list := []api.U{{}, narrow(order), narrow(off(order, 1)), narrow(off(order, 2)), all}
	return append(list, narrow(prime), narrow(off(prime, -1)), narrow(off(prime, 1)))
}

// digests are texts of 32 bytes: those whose numbers are at the edges, and some
// between.
func digests() []string {
	list := []string{wide(new(big.Int)), wide(large(all)), wide(prime), wide(half), strings.Repeat("d", 32)}
	for by := int64(-2); by <= 2; by++ {
		list = append(list, wide(off(order, by)))
	}
	for _, n := range append(mixed(2, 6), big.NewInt(1), big.NewInt(256), off(half, 1)) {
		list = append(list, wide(n))
	}
	return list
}

// noDigests are texts that are none.
func noDigests() []string {
	list := []string{"", "d", strings.Repeat("\xC3\xA4", 32)}
	for _, size := range []int{1, 16, 20, 31, 33, 64, 65, 4000} {
		list = append(list, strings.Repeat("\x01", size), strings.Repeat("\x00", size))
	}
	return list
}

// good are signatures that may be, with the edges.
func good() []signed {
	var list []signed
	for _, r := range append(mixed(3, 4), big.NewInt(1), big.NewInt(2), off(order, -1), half, off(half, 1), base.x) {
		for _, s := range append(mixed(4, 4), big.NewInt(1), big.NewInt(2), half, off(half, -1)) {
			if s.Cmp(half) > 0 {
				s = new(big.Int).Sub(order, s)
			}
			list = append(list, signed{r, s, 0}, signed{r, s, 1})
		}
	}
	return list
}

// bad are signatures that may not be.
func bad() []api.Sig {
	list := []api.Sig{none, {R: all, S: all}, {V: 1}}
	for _, s := range []api.Sig{shown(good()[0]), shown(good()[1]), {R: narrow(base.x), S: api.U{1}, V: 1}} {
		for _, r := range append(noSecrets(), narrow(off(order, 3)), narrow(new(big.Int).Add(order, big.NewInt(1<<40)))) {
			list = append(list, api.Sig{R: r, S: s.S, V: s.V})
		}
		for _, high := range append(noSecrets(), narrow(off(order, -1)), narrow(off(half, 1)), narrow(off(half, 2)),
			narrow(new(big.Int).Sub(order, large(s.S))), api.U{0, 0, 0, 1 << 63}) {
			list = append(list, api.Sig{R: s.R, S: high, V: s.V})
		}
		for _, v := range []int{-1, -2, 2, 3, 27, 28, 255, 256, 257, 1 << 32, 1<<32 + 1, math.MinInt, math.MinInt + 1, math.MaxInt} {
			list = append(list, api.Sig{R: s.R, S: s.S, V: v})
		}
	}
	return list
}

// noText holds an address, or bytes, against an error, which has nothing beside it.
func noText(t *testing.T, got string, e, want api.Errno, call string, arguments ...any) {
	t.Helper()
	if got != "" || e != want {
		t.Errorf("%s%v = %X, %d, not nothing, %d", call, arguments, got, e, want)
	}
}

// noSig does so for a signature.
func noSig(t *testing.T, got api.Sig, e, want api.Errno, call string, arguments ...any) {
	t.Helper()
	if got != none || e != want {
		t.Errorf("%s%v = %v, %d, not nothing, %d", call, arguments, got, e, want)
	}
}

// TestAddress is for P7.1: the addresses of secrets.
func TestAddress(t *testing.T) {
	for _, secret := range secrets() {
		got, e := sign.Address(narrow(secret))
		if want := plainOf(plainTimes(base, secret)); got != want || e != api.OK {
			t.Errorf("Address(%x) = %X, %d, not %X", secret, got, e, want)
		}
	}
}

// TestAddressTold is for P7.1: addresses that others have told, the chapter's
// example among them.
func TestAddressTold(t *testing.T) {
	cases := []struct{ secret, address string }{
		{"1", "7E5F4552091A69125D5DFCB7B8C2659029395BDF"},
		{"2", "2B5AD5C4795C026514F8317C7A215E218DCCD6CF"},
		{"3", "6813EB9362372EEF6200F3B1DBC3F819671CBA69"},
		{"4", "1EFF47BC3A10A45D4B230B5D10E37751FE6AA718"},
		{"5", "E1AB8145F7E55DC933D51A18C793F901A3A0B276"},
		{"4646464646464646464646464646464646464646464646464646464646464646", "9D8A62F656A8D1615C1294FD71E9CFB3E4855A4F"},
		{"4C0883A69102937D6231471B5DBB6204FE5129617082792AE468D01A3F362318", "2C7536E3605D9C16A7A3D7B1898E529396A65C23"},
		{"FFFFFFFFFFFFFFFFFFFFFFFFFFFFFFFEBAAEDCE6AF48A03BBFD25E8CD0364140", "80C0DBF239224071C59DD8970AB9D542E3414AB2"},
	}
	for _, c := range cases {
		got, e := sign.Address(narrow(number(c.secret)))
		if got != text(c.address) || e != api.OK {
			t.Errorf("Address(%s) = %X, %d, not %s", c.secret, got, e, c.address)
		}
	}
}

// TestAddressArg is for P7.1: numbers that are no secrets.
func TestAddressArg(t *testing.T) {
	for _, secret := range noSecrets() {
		got, e := sign.Address(secret)
		noText(t, got, e, api.ErrArg, "Address", secret)
	}
}

// TestOf is for P7.1: the addresses of points, each with its Y and the turned
// one, and a point of a small X, whose bytes begin with zeros.
func TestOf(t *testing.T) {
	list := []plain{base}
	for _, x := range append(mixed(5, 20), big.NewInt(1), big.NewInt(2), off(prime, -3)) {
		for v := range 2 {
			if p, ok := plainLift(x, v); ok {
				list = append(list, p)
			}
		}
	}
	seen := map[string]bool{}
	for _, p := range list {
		got, e := sign.Of(api.Point{X: narrow(p.x), Y: narrow(p.y)})
		if want := plainOf(p); got != want || len(got) != 20 || e != api.OK {
			t.Errorf("Of(%x, %x) = %X, %d, not %X", p.x, p.y, got, e, want)
		}
		seen[got] = true
	}
	if len(seen) != len(list) || len(list) < 20 {
		t.Errorf("%d points have %d addresses", len(list), len(seen))
	}
}

// TestOfArg is for P7.1: the zero point, and points that are none of the curve.
func TestOfArg(t *testing.T) {
	top := point.Base()
	low, _ := plainLift(big.NewInt(1), 0)
	list := []api.Point{
		{Zero: true}, {}, {X: top.X, Y: top.Y, Zero: true}, {X: api.U{1}, Zero: true}, {Y: all, Zero: true},
		{X: top.X}, {Y: top.Y}, {X: top.Y, Y: top.X}, {X: all, Y: all}, {X: api.U{5}, Y: api.U{1}},
		// What leaves a point's X, but is not reduced.
		{X: narrow(off(prime, 1)), Y: narrow(low.y)},
	}
	for bit := range 256 {
		other := top
		other.Y[bit/64] ^= 1 << (bit % 64)
		list = append(list, other)
	}
	for _, p := range list {
		got, e := sign.Of(p)
		noText(t, got, e, api.ErrArg, "Of", p)
	}
}

// TestSign is for P7.2: signatures, of V 0 and 1.
func TestSign(t *testing.T) {
	var many [2]int
	for i, secret := range secrets() {
		for j, digest := range digests() {
			// Each secret with each digest would take long.
			if (i+j)%4 != 0 {
				continue
			}
			got, e := sign.Sign(narrow(secret), digest)
			if want := shown(plainSign(secret, digest)); got != want || e != api.OK {
				t.Fatalf("Sign(%x, %X) = %v, %d, not %v", secret, digest, got, e, want)
			}
			many[got.V]++
		}
	}
	if many[0] < 20 || many[1] < 20 {
		t.Errorf("signatures of V 0 and 1: %v", many)
	}
}

// told are signatures that others have told: the secret, the digest, or the
// text whose SHA-256 it is, and the numbers.
func told() []struct{ secret, digest, text, r, s string } {
	return []struct{ secret, digest, text, r, s string }{
		{"1", "", "Satoshi Nakamoto",
			"934B1EA10A4B3C1757E2B0C017D0B6143CE3C9A7E6A4A49860D7A6AB210EE3D8",
			"2442CE9D2B916064108014783E923EC36B49743E2FFA1C4496F01A512AAFD9E5"},
		{"1", "", "All those moments will be lost in time, like tears in rain. Time to die...",
			"8600DBD41E348FE5C9465AB92D23E3DB8B98B873BEECD930736488696438CB6B",
			"547FE64427496DB33BF66019DACBF0039C04199ABB0122918601DB38A72CFC21"},
		{"FFFFFFFFFFFFFFFFFFFFFFFFFFFFFFFEBAAEDCE6AF48A03BBFD25E8CD0364140", "", "Satoshi Nakamoto",
			"FD567D121DB66E382991534ADA77A6BD3106F0A1098C231E47993447CD6AF2D0",
			"6B39CD0EB1BC8603E159EF5C20A5C8AD685A45B06CE9BEBED3F153D10D93BED5"},
		{"F8B8AF8CE3C7CCA5E300D33939540C10D45CE001B8F252BFBC57BA0342904181", "", "Alan Turing",
			"7063AE83E7F62BBB171798131B4A0564B956930092B33B07B395615D9EC7E15C",
			"58DFCC1E00A35E1572F366FFE34BA0FC47DB1E7189759B9FB233C5B05AB388EA"},
		{"4646464646464646464646464646464646464646464646464646464646464646",
			"DAF5A779AE972F972197303D7B574746C7EF83EADAC0F2791AD23DB92E4C8E53", "",
			"28EF61340BD939BC2195FE537567866003E1A15D3C71FF63E1590620AA636276",
			"67CBE9D8997F761AECB703304B3800CCF555C9F3DC64214B297FB1966A3B6D83"},
		{"4C0883A69102937D6231471B5DBB6204FE5129617082792AE468D01A3F362318",
			"1DA44B586EB0729FF70A73C326926F6ED5A25F5B056E7F47FBC6E58D86871655", "",
			"B91467E570A6466AA9E9876CBCD013BABA02900B8979D43FE208A4A4F339F5FD",
			"6007E74CD82E037B800186422FC2DA167C747EF045E5D18A5F5D4300F8E1A029"},
	}
}

// TestSignTold is for P7.2: signatures that others have told.
func TestSignTold(t *testing.T) {
	for _, c := range told() {
		secret, digest := narrow(number(c.secret)), text(c.digest)
		if c.text != "" {
			digest = summed(c.text)
		}
		got, e := sign.Sign(secret, digest)
		if got.R != narrow(number(c.r)) || got.S != narrow(number(c.s)) || e != api.OK {
			t.Errorf("Sign(%s, %X) = %v, %d, not %s, %s", c.secret, digest, got, e, c.r, c.s)
		}
		address, _ := sign.Address(secret)
		if back, e := sign.Recover(digest, got); back != address || e != api.OK {
			t.Errorf("Recover(%X, %v) = %X, %d, not %X", digest, got, back, e, address)
		}
	}
}

// TestSignV is for P7.2: the V of two signatures that others have told.
func TestSignV(t *testing.T) {
	for i, c := range told()[4:] {
		got, e := sign.Sign(narrow(number(c.secret)), text(c.digest))
		if got.V != i || e != api.OK {
			t.Errorf("Sign(%s, %s) = %v, %d, not of V %d", c.secret, c.digest, got, e, i)
		}
	}
}

// TestDigestNumber is for P7.2 and P7.3: a digest of the order or above counts
// as what it leaves.
func TestDigestNumber(t *testing.T) {
	for _, secret := range secrets()[:8] {
		for n := range int64(4) {
			low, high := wide(big.NewInt(n)), wide(off(order, n))
			small, e := sign.Sign(narrow(secret), low)
			great, f := sign.Sign(narrow(secret), high)
			if small != great || e != api.OK || f != api.OK {
				t.Errorf("%x signs %d as %v, %d, and n more as %v, %d", secret, n, small, e, great, f)
			}
			first, e := sign.Recover(low, small)
			second, f := sign.Recover(high, small)
			if first != second || e != api.OK || f != api.OK {
				t.Errorf("%v of %d is of %X, %d, of n more %X, %d", small, n, first, e, second, f)
			}
		}
	}
}

// TestSignArg is for P7.2: what is no secret, no digest, or neither.
func TestSignArg(t *testing.T) {
	for _, secret := range noSecrets() {
		for _, digest := range append(noDigests(), digests()...) {
			got, e := sign.Sign(secret, digest)
			noSig(t, got, e, api.ErrArg, "Sign", secret, digest)
		}
	}
	for _, secret := range secrets() {
		for _, digest := range noDigests() {
			got, e := sign.Sign(narrow(secret), digest)
			noSig(t, got, e, api.ErrArg, "Sign", secret, digest)
		}
	}
}

// TestBytes is for P7.2: signatures that may be, to their bytes and back.
func TestBytes(t *testing.T) {
	for _, s := range good() {
		got, e := sign.Bytes(shown(s))
		if want := plainBytes(s); got != want || len(got) != 65 || e != api.OK {
			t.Errorf("Bytes(%v) = %X, %d, not %X", shown(s), got, e, want)
		}
		back, e := sign.From(got)
		if back != shown(s) || e != api.OK {
			t.Errorf("From(%X) = %v, %d, not %v", got, back, e, shown(s))
		}
	}
}

// TestBytesArg is for P7.2: signatures that may not be have no bytes, and what
// would be theirs is none's.
func TestBytesArg(t *testing.T) {
	for _, s := range bad() {
		got, e := sign.Bytes(s)
		noText(t, got, e, api.ErrArg, "Bytes", s)
		if s.V >= 0 && s.V <= 255 {
			whole := plainBytes(reckoned(s))
			back, e := sign.From(whole)
			noSig(t, back, e, api.ErrForm, "From", []byte(whole))
		}
	}
}

// TestFromLength is for P7.2: bytes of another length than 65.
func TestFromLength(t *testing.T) {
	whole := plainBytes(good()[1])
	long := whole + strings.Repeat("\x00", 65) + whole
	for size := range len(long) {
		for _, s := range []string{long[:size], strings.Repeat("\x01", size), strings.Repeat("\x00", size)} {
			got, e := sign.From(s)
			if size != 65 {
				noSig(t, got, e, api.ErrForm, "From", []byte(s))
			}
		}
	}
	for _, s := range []string{"\x00" + whole, whole[1:], whole[:64], whole + "\x00", whole + whole} {
		got, e := sign.From(s)
		noSig(t, got, e, api.ErrForm, "From", []byte(s))
	}
}

// TestFromV is for P7.2: each last byte.
func TestFromV(t *testing.T) {
	for _, s := range good()[:20] {
		for v := range 256 {
			s.v = v
			got, e := sign.From(plainBytes(s))
			if v > 1 {
				noSig(t, got, e, api.ErrForm, "From", []byte(plainBytes(s)))
			} else if got != shown(s) || e != api.OK {
				t.Errorf("From(%X) = %v, %d", plainBytes(s), got, e)
			}
		}
	}
}

// TestFromBits is for P7.2: bytes with a bit turned are those of another
// signature, or of none.
func TestFromBits(t *testing.T) {
	edges := []signed{good()[0], {big.NewInt(1), big.NewInt(1), 0}, {off(order, -1), half, 1}, {half, off(half, -1), 0}}
	some, missing := 0, 0
	for _, s := range edges {
		for bit := range 8 * 65 {
			whole := []byte(plainBytes(s))
			whole[bit/8] ^= 1 << (bit % 8)
			want := signed{new(big.Int).SetBytes(whole[:32]), new(big.Int).SetBytes(whole[32:64]), int(whole[64])}
			got, e := sign.From(string(whole))
			if !plainMay(want) {
				missing++
				noSig(t, got, e, api.ErrForm, "From", whole)
				continue
			}
			some++
			if back, _ := sign.Bytes(got); got != shown(want) || e != api.OK || back != string(whole) {
				t.Errorf("From(%X) = %v, %d, not %v; back %X", whole, got, e, shown(want), back)
			}
		}
	}
	if some < 500 || missing < 30 {
		t.Errorf("%d have a signature, %d none", some, missing)
	}
}
