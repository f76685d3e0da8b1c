package field_test

import (
	"testing"

	"ecclesia/api"
	"ecclesia/field"
	"ecclesia/u256"
)

// sum, product and the like are answers that must be OK.
func sum(t *testing.T, a, b api.U, which int) api.U {
	t.Helper()
	got, e := field.Add(a, b, which)
	return sound(t, got, e, which)
}

func product(t *testing.T, a, b api.U, which int) api.U {
	t.Helper()
	got, e := field.Mul(a, b, which)
	return sound(t, got, e, which)
}

func difference(t *testing.T, a, b api.U, which int) api.U {
	t.Helper()
	got, e := field.Sub(a, b, which)
	return sound(t, got, e, which)
}

func power(t *testing.T, a, times api.U, which int) api.U {
	t.Helper()
	got, e := field.Pow(a, times, which)
	return sound(t, got, e, which)
}

// sound holds an answer to what is promised of all: OK, and reduced.
func sound(t *testing.T, a api.U, e api.Errno, which int) api.U {
	t.Helper()
	if e != api.OK || u256.Cmp(a, moduli[which]) >= 0 {
		t.Fatalf("an answer %x, %d, modulo %x", a, e, moduli[which])
	}
	return a
}

// TestRules is for P2.3: what is reckoned goes by the rules of numbers.
func TestRules(t *testing.T) {
	list := append(mixed(t, 12), zero, one, p, n, all)
	for which := range moduli {
		for _, a := range list {
			for _, b := range list {
				ab := product(t, a, b, which)
				if sum(t, a, b, which) != sum(t, b, a, which) || ab != product(t, b, a, which) {
					t.Fatalf("%x and %x hang on their order", a, b)
				}
				if sum(t, difference(t, a, b, which), b, which) != sum(t, a, zero, which) {
					t.Fatalf("%x less %x and that again is another one", a, b)
				}
				for _, c := range list {
					parts := sum(t, ab, product(t, a, c, which), which)
					if product(t, a, sum(t, b, c, which), which) != parts {
						t.Fatalf("%x (%x + %x) is not its parts", a, b, c)
					}
					if product(t, ab, c, which) != product(t, a, product(t, b, c, which), which) {
						t.Fatalf("%x, %x and %x hang on their grouping", a, b, c)
					}
				}
			}
		}
	}
}

// TestPowers is for P2.3: powers of two exponents make that of their sum.
func TestPowers(t *testing.T) {
	for which := range moduli {
		for _, a := range numbers(t) {
			few, more := api.U{41, 7}, api.U{9, 0, 3}
			together, _ := u256.Add(few, more)
			parts := product(t, power(t, a, few, which), power(t, a, more, which), which)
			if power(t, a, together, which) != parts {
				t.Fatalf("the powers of %x are not their parts", a)
			}
		}
	}
}

// TestTurned is for P2.3: a number and the turned one make 1, and one that is
// turned twice is itself.
func TestTurned(t *testing.T) {
	for which, modulus := range moduli {
		for _, a := range numbers(t) {
			if a == zero || a == modulus {
				continue
			}
			turned, e := field.Inv(a, which)
			sound(t, turned, e, which)
			if made := product(t, a, turned, which); made != one {
				t.Fatalf("%x and %x make %x, modulo %x", a, turned, made, modulus)
			}
			back, e := field.Inv(turned, which)
			if sound(t, back, e, which) != sum(t, a, zero, which) {
				t.Fatalf("%x, turned twice, is %x, modulo %x", a, back, modulus)
			}
		}
	}
}

// TestSquares is for P2.3: a square has a root, which is even.
func TestSquares(t *testing.T) {
	for _, a := range numbers(t) {
		square := product(t, a, a, 0)
		root, e := field.Root(square)
		sound(t, root, e, 0)
		if u256.Bit(root, 0) || product(t, root, root, 0) != square {
			t.Fatalf("the root of %x, %x's square, is %x", square, a, root)
		}
		if low := sum(t, a, zero, 0); root != low && root != difference(t, zero, a, 0) {
			t.Fatalf("the root of %x's square is %x", a, root)
		}
	}
}

// TestAgain is for R1: an answer is the same one each time.
func TestAgain(t *testing.T) {
	for which := range moduli {
		for _, a := range numbers(t) {
			first, e := field.Inv(a, which)
			power(t, all, a, which)
			if second, f := field.Inv(a, which); second != first || e != f {
				t.Fatalf("Inv(%x, %d) is now %x, now %x", a, which, first, second)
			}
		}
	}
}

func BenchmarkMul(b *testing.B) {
	for b.Loop() {
		field.Mul(all, p, 1)
	}
}

func BenchmarkInv(b *testing.B) {
	for b.Loop() {
		field.Inv(all, 0)
	}
}
