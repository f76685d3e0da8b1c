package field_test

import (
	"math"
	"math/big"
	"testing"

	"ecclesia/api"
	"ecclesia/field"
	"ecclesia/u256"
)

const most = math.MaxUint64

var (
	zero = api.U{}
	one  = api.U{1}
	all  = api.U{most, most, most, most}
	p    = api.U{0xfffffffefffffc2f, most, most, most}
	n    = api.U{0xbfd25e8cd0364141, 0xbaaedce6af48a03b, 0xfffffffffffffffe, most}
	// Of each modulus, by which.
	moduli = [2]api.U{p, n}
	// What is neither of the two.
	others = []int{-1, 2, 3, 256, 1 << 32, 1<<32 + 1, math.MinInt, math.MaxInt}
)

// wide is low and 2^256 times high, as the library reckons.
func wide(low, high api.U) *big.Int {
	return new(big.Int).SetBytes([]byte(u256.Bytes(high) + u256.Bytes(low)))
}

func large(a api.U) *big.Int { return wide(a, zero) }

// narrow is a number of the library's that is below 2^256.
func narrow(t *testing.T, number *big.Int) api.U {
	t.Helper()
	a, e := u256.From(string(number.Bytes()))
	if number.Sign() < 0 || e != api.OK {
		t.Fatalf("%v has no 256 bits", number)
	}
	return a
}

// left is what a number of the library's leaves, from 0 on.
func left(t *testing.T, number *big.Int, which int) api.U {
	t.Helper()
	return narrow(t, new(big.Int).Mod(number, large(moduli[which])))
}

// near are the numbers about a that have 256 bits.
func near(a api.U) []api.U {
	list := []api.U{a}
	for step := uint64(1); step < 4; step++ {
		if above, round := u256.Add(a, api.U{step}); !round {
			list = append(list, above)
		}
		if below, round := u256.Sub(a, api.U{step}); !round {
			list = append(list, below)
		}
	}
	return list
}

// mixed are many numbers of all lengths, the same ones at each run.
func mixed(t *testing.T, many int) []api.U {
	t.Helper()
	state := uint64(0x9E3779B97F4A7C15)
	next := func() uint64 {
		state ^= state << 13
		state ^= state >> 7
		state ^= state << 17
		return state
	}
	list := make([]api.U, many)
	for i := range list {
		number := large(api.U{next(), next(), next(), next()})
		list[i] = narrow(t, number.Rsh(number, uint(next()%256)))
	}
	return list
}

// numbers are those at the edges, reduced or not, and some between.
func numbers(t *testing.T) []api.U {
	t.Helper()
	list := mixed(t, 30)
	for _, a := range []api.U{zero, p, n, all, {0, 0, 0, 1 << 63}, {most, most}, {0, 0, 1}} {
		list = append(list, near(a)...)
	}
	return list
}

// check holds an answer against what is wanted.
func check(t *testing.T, got api.U, e api.Errno, want api.U, call string, arguments ...any) {
	t.Helper()
	if got != want || e != api.OK {
		t.Fatalf("%s%x = %x, %d, not %x", call, arguments, got, e, want)
	}
}

// refused holds an answer against an error, which has nothing beside it.
func refused(t *testing.T, got api.U, e, want api.Errno, call string, arguments ...any) {
	t.Helper()
	if got != zero || e != want {
		t.Errorf("%s%x = %x, %d, not 0, %d", call, arguments, got, e, want)
	}
}

// TestPrime is for P2.1: the two moduli.
func TestPrime(t *testing.T) {
	cases := []string{
		"fffffffffffffffffffffffffffffffffffffffffffffffffffffffefffffc2f",
		"fffffffffffffffffffffffffffffffebaaedce6af48a03bbfd25e8cd0364141",
	}
	for which, digits := range cases {
		want, _ := new(big.Int).SetString(digits, 16)
		got, e := field.Prime(which)
		check(t, got, e, narrow(t, want), "Prime", which)
	}
	away := new(big.Int).Lsh(big.NewInt(1), 256)
	away.Sub(away, big.NewInt(1<<32+977))
	if large(p).Cmp(away) != 0 {
		t.Error("the prime is not 2^256 - 2^32 - 977")
	}
}

// TestWhich is for P2.1 and P2.2: no other modulus, whatever else is wrong.
func TestWhich(t *testing.T) {
	for _, which := range others {
		got, e := field.Prime(which)
		refused(t, got, e, api.ErrArg, "Prime", which)
		for _, a := range []api.U{zero, one, p, n, all} {
			got, e = field.Reduce(a, a, which)
			refused(t, got, e, api.ErrArg, "Reduce", a, which)
			got, e = field.Add(a, a, which)
			refused(t, got, e, api.ErrArg, "Add", a, which)
			got, e = field.Sub(a, one, which)
			refused(t, got, e, api.ErrArg, "Sub", a, which)
			got, e = field.Mul(a, a, which)
			refused(t, got, e, api.ErrArg, "Mul", a, which)
			got, e = field.Pow(a, zero, which)
			refused(t, got, e, api.ErrArg, "Pow", a, which)
			// ErrArg comes ahead of the ErrZero of what leaves 0.
			got, e = field.Inv(a, which)
			refused(t, got, e, api.ErrArg, "Inv", a, which)
		}
	}
}

// TestReduce is for P2.1: what numbers of up to 512 bits leave.
func TestReduce(t *testing.T) {
	for which, modulus := range moduli {
		for _, low := range numbers(t) {
			for _, high := range numbers(t) {
				got, e := field.Reduce(low, high, which)
				check(t, got, e, left(t, wide(low, high), which), "Reduce", low, high, which)
			}
			// Multiples of the modulus leave 0, and a number more leaves that.
			low, high := u256.Mul(low, modulus)
			got, e := field.Reduce(low, high, which)
			check(t, got, e, zero, "Reduce", low, high, which)
			if low, round := u256.Add(low, api.U{5}); !round {
				got, e = field.Reduce(low, high, which)
				check(t, got, e, api.U{5}, "Reduce", low, high, which)
			}
		}
		got, e := field.Reduce(modulus, zero, which)
		check(t, got, e, zero, "Reduce", modulus, zero, which)
	}
	got, e := field.Reduce(zero, one, 0)
	check(t, got, e, api.U{1<<32 + 977}, "Reduce", zero, one, 0)
}

// TestAdd is for P2.1: sums, also those that go beyond 2^256.
func TestAdd(t *testing.T) {
	for which, modulus := range moduli {
		for _, a := range numbers(t) {
			for _, b := range numbers(t) {
				want := left(t, new(big.Int).Add(large(a), large(b)), which)
				got, e := field.Add(a, b, which)
				check(t, got, e, want, "Add", a, b, which)
			}
		}
		got, e := field.Add(modulus, api.U{5}, which)
		check(t, got, e, api.U{5}, "Add", modulus, 5, which)
		got, e = field.Add(modulus, modulus, which)
		check(t, got, e, zero, "Add", modulus, modulus, which)
	}
}

// TestSub is for P2.1: differences, from 0 on where a is below b.
func TestSub(t *testing.T) {
	for which, modulus := range moduli {
		for _, a := range numbers(t) {
			for _, b := range numbers(t) {
				want := left(t, new(big.Int).Sub(large(a), large(b)), which)
				got, e := field.Sub(a, b, which)
				check(t, got, e, want, "Sub", a, b, which)
			}
		}
		highest := api.U{modulus[0] - 1, modulus[1], modulus[2], modulus[3]}
		got, e := field.Sub(one, api.U{2}, which)
		check(t, got, e, highest, "Sub", 1, 2, which)
		got, e = field.Sub(zero, modulus, which)
		check(t, got, e, zero, "Sub", 0, modulus, which)
		got, e = field.Sub(modulus, one, which)
		check(t, got, e, highest, "Sub", modulus, 1, which)
	}
}

// TestMul is for P2.1: products.
func TestMul(t *testing.T) {
	for which, modulus := range moduli {
		for _, a := range numbers(t) {
			for _, b := range numbers(t) {
				want := left(t, new(big.Int).Mul(large(a), large(b)), which)
				got, e := field.Mul(a, b, which)
				check(t, got, e, want, "Mul", a, b, which)
			}
			got, e := field.Mul(modulus, a, which)
			check(t, got, e, zero, "Mul", modulus, a, which)
		}
	}
}

// TestPow is for P2.2: powers, of exponents that are never reduced.
func TestPow(t *testing.T) {
	for which, modulus := range moduli {
		for i, a := range numbers(t) {
			for j, times := range numbers(t) {
				// Each number with each one would take long.
				if (i+j)%5 != 0 && times[1] != 0 {
					continue
				}
				want := new(big.Int).Exp(large(a), large(times), large(modulus))
				got, e := field.Pow(a, times, which)
				check(t, got, e, narrow(t, want), "Pow", a, times, which)
			}
			got, e := field.Pow(a, zero, which)
			check(t, got, e, one, "Pow", a, 0, which)
			got, e = field.Pow(a, one, which)
			check(t, got, e, left(t, large(a), which), "Pow", a, 1, which)
			got, e = field.Pow(a, modulus, which)
			check(t, got, e, left(t, large(a), which), "Pow", a, modulus, which)
		}
		got, e := field.Pow(modulus, zero, which)
		check(t, got, e, one, "Pow", modulus, 0, which)
		got, e = field.Pow(zero, all, which)
		check(t, got, e, zero, "Pow", 0, all, which)
		got, e = field.Pow(api.U{3}, api.U{5}, which)
		check(t, got, e, api.U{243}, "Pow", 3, 5, which)
	}
}

// TestInv is for P2.2: turned numbers, and those that leave 0.
func TestInv(t *testing.T) {
	for which, modulus := range moduli {
		for _, a := range []api.U{zero, modulus} {
			got, e := field.Inv(a, which)
			refused(t, got, e, api.ErrZero, "Inv", a, which)
		}
		for _, a := range numbers(t) {
			if a == zero || a == modulus {
				continue
			}
			want := new(big.Int).ModInverse(large(a), large(modulus))
			got, e := field.Inv(a, which)
			check(t, got, e, narrow(t, want), "Inv", a, which)
		}
		// The chapter's example: half of the modulus and 1.
		half := large(modulus)
		got, e := field.Inv(api.U{2}, which)
		check(t, got, e, narrow(t, half.Add(half, big.NewInt(1)).Rsh(half, 1)), "Inv", 2, which)
	}
	// What leaves 0 by one modulus is turned by the other one.
	for which, other := range [2]api.U{n, p} {
		if got, e := field.Inv(other, which); got == zero || e != api.OK {
			t.Errorf("Inv(%x, %d) = %x, %d", other, which, got, e)
		}
	}
}

// TestRoot is for P2.2: the even roots of squares, and what is no square.
func TestRoot(t *testing.T) {
	squares, none := 0, 0
	for _, a := range numbers(t) {
		got, e := field.Root(a)
		want := new(big.Int).ModSqrt(large(a), large(p))
		if want == nil {
			none++
			refused(t, got, e, api.ErrZero, "Root", a)
			continue
		}
		if want.Bit(0) == 1 {
			want.Sub(large(p), want)
		}
		squares++
		check(t, got, e, narrow(t, want), "Root", a)
	}
	if squares < 10 || none < 10 {
		t.Errorf("of the numbers %d are squares, %d none", squares, none)
	}
	cases := []struct{ a, root api.U }{
		{zero, zero},
		{p, zero},
		{one, api.U{p[0] - 1, most, most, most}},
		{api.U{p[0] + 1, most, most, most}, api.U{p[0] - 1, most, most, most}},
		{api.U{4}, api.U{2}}, // the chapter's example
		{api.U{p[0] + 4, most, most, most}, api.U{2}},
		{api.U{9}, api.U{p[0] - 3, most, most, most}},
		{api.U{16}, api.U{4}},
	}
	for _, c := range cases {
		got, e := field.Root(c.a)
		check(t, got, e, c.root, "Root", c.a)
	}
	// p leaves 3, divided by 4: so p - 1 is no square, nor is a square turned
	// about.
	for _, below := range []uint64{1, 4, 9} {
		a := api.U{p[0] - below, most, most, most}
		got, e := field.Root(a)
		refused(t, got, e, api.ErrZero, "Root", a)
	}
}

// TestRootOfCurve is for P2.2: the root that chapter 6 tells of its base.
func TestRootOfCurve(t *testing.T) {
	x := api.U{0x59f2815b16f81798, 0x029bfcdb2dce28d9, 0x55a06295ce870b07, 0x79be667ef9dcbbac}
	y := api.U{0x9c47d08ffb10d4b8, 0xfd17b448a6855419, 0x5da4fbfc0e1108a8, 0x483ada7726a3c465}
	cube, _ := field.Pow(x, api.U{3}, 0)
	square, _ := field.Add(cube, api.U{7}, 0)
	got, e := field.Root(square)
	check(t, got, e, y, "Root", square)
}
