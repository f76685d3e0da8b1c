package u256_test

import (
	"math"
	"math/big"
	"strings"
	"testing"

	"ecclesia/api"
	"ecclesia/u256"
)

const most = math.MaxUint64

var (
	all  = api.U{most, most, most, most}
	zero = api.U{}
	one  = api.U{1}
	two  = api.U{2}
	half = api.U{0, 0, 0, 1 << 63} // 2^255
)

// two256 is 2^256, which is no number of ours.
func two256() *big.Int { return new(big.Int).Lsh(big.NewInt(1), 256) }

// wide is low and 2^256 times high, as the library reckons.
func wide(low, high api.U) *big.Int {
	sum := new(big.Int)
	for _, number := range []api.U{high, low} {
		for i := range number {
			sum.Lsh(sum, 64)
			sum.Add(sum, new(big.Int).SetUint64(number[3-i]))
		}
	}
	return sum
}

func big256(a api.U) *big.Int { return wide(a, zero) }

// narrow is what a number of the library's leaves, divided by 2^256.
func narrow(n *big.Int) api.U {
	rest := new(big.Int).Mod(n, two256())
	var a api.U
	for i := range a {
		a[i] = new(big.Int).Rsh(rest, uint(64*i)).Uint64()
	}
	return a
}

// edges are the numbers whose words are each one of these.
func edges(words ...uint64) []api.U {
	var list []api.U
	for _, a := range words {
		for _, b := range words {
			for _, c := range words {
				for _, d := range words {
					list = append(list, api.U{a, b, c, d})
				}
			}
		}
	}
	return list
}

// mixed are many numbers of all lengths, the same ones at each run.
func mixed(many int) []api.U {
	state := uint64(0x9E3779B97F4A7C15)
	next := func() uint64 {
		state ^= state << 13
		state ^= state >> 7
		state ^= state << 17
		return state
	}
	list := make([]api.U, many)
	for i := range list {
		number := wide(api.U{next(), next(), next(), next()}, zero)
		list[i] = narrow(number.Rsh(number, uint(next()%256)))
	}
	return list
}

// numbers are those at the edges and some between.
func numbers() []api.U {
	list := append(edges(0, 1, most), mixed(60)...)
	return append(list, half, api.U{258}, api.U{most - 1, most, most, most}, api.U{0, 0, 0, 1<<63 - 1})
}

// TestAdd is for P1.1: sums, and whether they go round.
func TestAdd(t *testing.T) {
	cases := []struct {
		a, b, sum api.U
		round     bool
	}{
		{zero, zero, zero, false},
		{api.U{3}, api.U{4}, api.U{7}, false},
		{all, one, zero, true}, // the chapter's example
		{all, zero, all, false},
		{all, all, api.U{most - 1, most, most, most}, true},
		{half, half, zero, true},
		{api.U{most}, one, api.U{0, 1}, false},
		{api.U{most, most, most}, one, api.U{0, 0, 0, 1}, false},
		{api.U{most - 1, most, most, most}, one, all, false},
	}
	for _, c := range cases {
		if sum, round := u256.Add(c.a, c.b); sum != c.sum || round != c.round {
			t.Errorf("Add(%v, %v) = %v, %v, not %v, %v", c.a, c.b, sum, round, c.sum, c.round)
		}
	}
	for _, a := range numbers() {
		for _, b := range numbers() {
			want := new(big.Int).Add(big256(a), big256(b))
			sum, round := u256.Add(a, b)
			if sum != narrow(want) || round != (want.Cmp(two256()) >= 0) {
				t.Fatalf("Add(%v, %v) = %v, %v", a, b, sum, round)
			}
		}
	}
}

// TestSub is for P1.1: differences, and whether they go round.
func TestSub(t *testing.T) {
	cases := []struct {
		a, b, left api.U
		below      bool
	}{
		{zero, zero, zero, false},
		{api.U{7}, api.U{4}, api.U{3}, false},
		{zero, one, all, true},
		{zero, all, one, true},
		{all, all, zero, false},
		{api.U{0, 1}, one, api.U{most}, false},
		{api.U{0, 0, 0, 1}, one, api.U{most, most, most}, false},
		{api.U{4}, api.U{7}, api.U{most - 2, most, most, most}, true},
	}
	for _, c := range cases {
		if left, below := u256.Sub(c.a, c.b); left != c.left || below != c.below {
			t.Errorf("Sub(%v, %v) = %v, %v, not %v, %v", c.a, c.b, left, below, c.left, c.below)
		}
	}
	for _, a := range numbers() {
		for _, b := range numbers() {
			want := new(big.Int).Sub(big256(a), big256(b))
			left, below := u256.Sub(a, b)
			if left != narrow(want) || below != (want.Sign() < 0) {
				t.Fatalf("Sub(%v, %v) = %v, %v", a, b, left, below)
			}
		}
	}
}

// TestMul is for P1.1: products, below and above 2^256.
func TestMul(t *testing.T) {
	cases := []struct{ a, b, low, high api.U }{
		{zero, all, zero, zero},
		{one, all, all, zero},
		{api.U{6}, api.U{7}, api.U{42}, zero},
		{half, api.U{4}, zero, two}, // the chapter's example
		{half, two, zero, one},
		{half, half, zero, api.U{0, 0, 0, 1 << 62}},
		{all, all, one, api.U{most - 1, most, most, most}},
		{api.U{most}, api.U{most}, api.U{1, most - 1}, zero},
	}
	for _, c := range cases {
		if low, high := u256.Mul(c.a, c.b); low != c.low || high != c.high {
			t.Errorf("Mul(%v, %v) = %v, %v, not %v, %v", c.a, c.b, low, high, c.low, c.high)
		}
	}
	for _, a := range numbers() {
		for _, b := range numbers() {
			want := new(big.Int).Mul(big256(a), big256(b))
			low, high := u256.Mul(a, b)
			if low != narrow(want) || high != narrow(want.Rsh(want, 256)) {
				t.Fatalf("Mul(%v, %v) = %v, %v", a, b, low, high)
			}
		}
	}
}

// TestCmp is for P1.1: how two numbers stand.
func TestCmp(t *testing.T) {
	cases := []struct {
		a, b api.U
		want int
	}{
		{zero, zero, 0},
		{all, all, 0},
		{zero, all, -1},
		{all, zero, 1},
		{api.U{most, most, most}, api.U{0, 0, 0, 1}, -1},
		{api.U{0, 1}, api.U{9}, 1},
		{api.U{8}, api.U{9}, -1},
	}
	for _, c := range cases {
		if order := u256.Cmp(c.a, c.b); order != c.want {
			t.Errorf("Cmp(%v, %v) = %d, not %d", c.a, c.b, order, c.want)
		}
	}
	for _, a := range numbers() {
		for _, b := range numbers() {
			if order := u256.Cmp(a, b); order != big256(a).Cmp(big256(b)) {
				t.Fatalf("Cmp(%v, %v) = %d", a, b, order)
			}
		}
	}
}

// TestBit is for P1.2: each bit, and none outside.
func TestBit(t *testing.T) {
	for _, a := range numbers() {
		for i := range 256 {
			if got := u256.Bit(a, i); got != (big256(a).Bit(i) == 1) {
				t.Fatalf("Bit(%v, %d) = %v", a, i, got)
			}
		}
	}
	for _, i := range []int{-1, -64, -256, math.MinInt, 256, 257, 320, 512, math.MaxInt} {
		if u256.Bit(all, i) {
			t.Errorf("Bit(2^256 - 1, %d) is true", i)
		}
	}
}

// TestLen is for P1.2: how many bits a number has.
func TestLen(t *testing.T) {
	if n := u256.Len(zero); n != 0 {
		t.Errorf("Len(0) = %d", n)
	}
	if n := u256.Len(all); n != 256 {
		t.Errorf("Len(2^256 - 1) = %d", n)
	}
	for i := range 256 {
		power := narrow(new(big.Int).Lsh(big.NewInt(1), uint(i)))
		if n := u256.Len(power); n != i+1 {
			t.Errorf("Len(2^%d) = %d", i, n)
		}
	}
	for _, a := range numbers() {
		if n := u256.Len(a); n != big256(a).BitLen() {
			t.Errorf("Len(%v) = %d", a, n)
		}
	}
}

// checkMod holds one remainder against the library's.
func checkMod(t *testing.T, low, high, m api.U) {
	t.Helper()
	want := narrow(new(big.Int).Mod(wide(low, high), big256(m)))
	if rest, e := u256.Mod(low, high, m); rest != want || e != api.OK {
		t.Fatalf("Mod(%v, %v, %v) = %v, %d, not %v", low, high, m, rest, e, want)
	}
}

// TestMod is for P1.2: what is left, and the divisor 0.
func TestMod(t *testing.T) {
	for _, a := range []api.U{zero, one, half, all} {
		if rest, e := u256.Mod(a, a, zero); rest != zero || e != api.ErrZero {
			t.Errorf("Mod(%v, %v, 0) = %v, %d", a, a, rest, e)
		}
		checkMod(t, a, a, one)
		checkMod(t, a, a, all)
		checkMod(t, a, zero, all)
		checkMod(t, all, all, api.U{10})
		checkMod(t, all, all, half)
	}
	for _, low := range mixed(30) {
		for _, high := range mixed(30) {
			for _, m := range mixed(30) {
				checkMod(t, low, high, m)
			}
		}
	}
}

// TestModGuess is for P1.2: at such divisors a quotient's word is easily
// guessed too high, by one or by two.
func TestModGuess(t *testing.T) {
	words := []uint64{0, 1, 1 << 63, most}
	for _, m := range edges(words...) {
		if m == zero {
			continue
		}
		for _, high := range edges(words...) {
			checkMod(t, zero, high, m)
			checkMod(t, high, m, m)
		}
	}
}

// TestBytes is for P1.3: 32 bytes, the highest first.
func TestBytes(t *testing.T) {
	cases := []struct {
		a    api.U
		want string
	}{
		{zero, strings.Repeat("\x00", 32)},
		{all, strings.Repeat("\xff", 32)},
		{api.U{258}, strings.Repeat("\x00", 30) + "\x01\x02"}, // the chapter's example
		{half, "\x80" + strings.Repeat("\x00", 31)},
		{api.U{0x191a1b1c1d1e1f20, 0x1112131415161718, 0x090a0b0c0d0e0f10, 0x0102030405060708},
			"\x01\x02\x03\x04\x05\x06\x07\x08\x09\x0a\x0b\x0c\x0d\x0e\x0f\x10" +
				"\x11\x12\x13\x14\x15\x16\x17\x18\x19\x1a\x1b\x1c\x1d\x1e\x1f\x20"},
	}
	for _, c := range cases {
		if s := u256.Bytes(c.a); s != c.want {
			t.Errorf("Bytes(%v) = %x", c.a, s)
		}
	}
}

// TestFrom is for P1.3: texts of any length are read, or are too long.
func TestFrom(t *testing.T) {
	cases := []struct {
		text string
		want api.U
	}{
		{"", zero},
		{"\x00", zero},
		{"\x07", api.U{7}},
		{"\x01\x02", api.U{258}},
		{"\x00\x00\x01\x02", api.U{258}},
		{"\x01\x00\x00\x00\x00\x00\x00\x00\x00", api.U{0, 1}},
		{strings.Repeat("\xff", 31), api.U{most, most, most, most >> 8}},
		{strings.Repeat("\xff", 32), all},
		{strings.Repeat("\x00", 32), zero},
		{"\x80" + strings.Repeat("\x00", 31), half},
	}
	for _, c := range cases {
		if a, e := u256.From(c.text); a != c.want || e != api.OK {
			t.Errorf("From(%x) = %v, %d, not %v", c.text, a, e, c.want)
		}
	}
	for size := range 33 {
		text := strings.Repeat("\xa5\x01", 16)[:size]
		want := narrow(new(big.Int).SetBytes([]byte(text)))
		if a, e := u256.From(text); a != want || e != api.OK {
			t.Errorf("From(%x) = %v, %d, not %v", text, a, e, want)
		}
	}
	for _, size := range []int{33, 34, 64, 1000} {
		for _, part := range []string{"\x00", "\x01", "\xff"} {
			if a, e := u256.From(strings.Repeat(part, size)); a != zero || e != api.ErrForm {
				t.Errorf("From(%d bytes) = %v, %d", size, a, e)
			}
		}
	}
}

// TestSmall is for P1.3: numbers of one word.
func TestSmall(t *testing.T) {
	for _, n := range []uint64{0, 1, 258, 1 << 63, most} {
		if a := u256.Small(n); a != (api.U{n}) {
			t.Errorf("Small(%d) = %v", n, a)
		}
	}
}

// TestBack is for P1.4: a number and its bytes lead to one another.
func TestBack(t *testing.T) {
	for _, a := range numbers() {
		text := u256.Bytes(a)
		if back, e := u256.From(text); len(text) != 32 || back != a || e != api.OK {
			t.Errorf("From(Bytes(%v)) = %v, %d", a, back, e)
		}
	}
	for _, part := range []string{"\x00", "\x5a", "\xff", "\x00\x01", "\x80\x00\x00\x00", "\x01\x02\x03\x04\x05\x06\x07\x08"} {
		text := strings.Repeat(part, 32/len(part))
		a, e := u256.From(text)
		if back := u256.Bytes(a); back != text || e != api.OK {
			t.Errorf("Bytes(From(%x)) = %x, %d", text, back, e)
		}
	}
}

// TestRules is for P1.4: sums, differences and products go by the rules of
// numbers, and what is left is below the divisor.
func TestRules(t *testing.T) {
	list := append(edges(0, most), mixed(20)...)
	for _, a := range list {
		for _, b := range list {
			sum, round := u256.Add(a, b)
			if other, also := u256.Add(b, a); other != sum || also != round {
				t.Fatalf("Add(%v, %v) hangs on the order", a, b)
			}
			if left, below := u256.Sub(sum, b); left != a || below != round {
				t.Fatalf("Sub does not undo Add(%v, %v)", a, b)
			}
			low, high := u256.Mul(a, b)
			if l, h := u256.Mul(b, a); l != low || h != high {
				t.Fatalf("Mul(%v, %v) hangs on the order", a, b)
			}
			if b == zero {
				continue
			}
			if rest, _ := u256.Mod(low, high, b); rest != zero {
				t.Fatalf("Mod of %v times %v leaves %v", a, b, rest)
			}
			if rest, _ := u256.Mod(b, a, b); u256.Cmp(rest, b) != -1 {
				t.Fatalf("Mod(%v, %v, %v) = %v, not below", b, a, b, rest)
			}
			for _, c := range list {
				checkShare(t, a, b, c)
			}
		}
	}
}

// checkShare holds a (b + c) against a b + a c, modulo 2^256.
func checkShare(t *testing.T, a, b, c api.U) {
	t.Helper()
	sum, _ := u256.Add(b, c)
	whole, _ := u256.Mul(a, sum)
	first, _ := u256.Mul(a, b)
	second, _ := u256.Mul(a, c)
	if parts, _ := u256.Add(first, second); parts != whole {
		t.Fatalf("%v (%v + %v) is not its parts", a, b, c)
	}
}

func BenchmarkMod(b *testing.B) {
	for b.Loop() {
		u256.Mod(half, half, api.U{most - 1, 5, 6, most})
	}
}

func BenchmarkMul(b *testing.B) {
	for b.Loop() {
		u256.Mul(half, all)
	}
}
