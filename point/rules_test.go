package point_test

import (
	"math/big"
	"testing"

	"ecclesia/api"
	"ecclesia/point"
	"ecclesia/u256"
)

// sound holds an answer to what is promised of all: OK, and of the curve.
func sound(t *testing.T, p api.Point, e api.Errno) api.Point {
	t.Helper()
	if e != api.OK || !point.On(p) {
		t.Fatalf("an answer %v, %d", p, e)
	}
	return p
}

// sum and multiple are answers that must be points of the curve.
func sum(t *testing.T, p, q api.Point) api.Point {
	t.Helper()
	got, e := point.Add(p, q)
	return sound(t, got, e)
}

func multiple(t *testing.T, p api.Point, n api.U) api.Point {
	t.Helper()
	got, e := point.Times(p, n)
	return sound(t, got, e)
}

// few are some points of the curve, with the zero point, and some that are one
// another turned.
func few() []api.Point {
	list := []api.Point{zero}
	for _, p := range append(sameY(), turned(plainTop), lowX()[0], lowY()[1], plainAdd(plainTop, plainTop)) {
		list = append(list, shown(p))
	}
	return list
}

// TestLaws is for P6.4: points are added in any order and grouping, and make
// points of the curve.
func TestLaws(t *testing.T) {
	for _, p := range few() {
		for _, q := range few() {
			both := sum(t, p, q)
			if sum(t, q, p) != both {
				t.Fatalf("%v and %v hang on their order", p, q)
			}
			for _, r := range few() {
				if sum(t, both, r) != sum(t, p, sum(t, q, r)) {
					t.Fatalf("%v, %v and %v hang on their grouping", p, q, r)
				}
			}
		}
	}
}

// TestTurned is for P6.4: a point and the turned one make the zero point, and
// no other one does.
func TestTurned(t *testing.T) {
	for _, p := range few() {
		other, e := point.Turn(p)
		sound(t, other, e)
		for _, q := range few() {
			if made := sum(t, p, q); made.Zero != (q == other) {
				t.Fatalf("%v and %v make %v", p, q, made)
			}
		}
		if made := sum(t, p, other); made != zero {
			t.Fatalf("%v and %v make %v", p, other, made)
		}
	}
}

// TestOrder is for P6.4: each point, as often as the order says, is the zero
// point; once more it is itself, once less the turned one.
func TestOrder(t *testing.T) {
	for _, p := range curve() {
		got, e := point.Times(shown(p), narrow(order))
		check(t, got, e, plain{}, "Times", shown(p), order)
		got, e = point.Times(shown(p), narrow(new(big.Int).Add(order, big.NewInt(1))))
		check(t, got, e, p, "Times", shown(p), "order + 1")
		got, e = point.Times(shown(p), narrow(new(big.Int).Sub(order, big.NewInt(1))))
		check(t, got, e, turned(p), "Times", shown(p), "order - 1")
	}
}

// TestShares is for P6.4: n times and m times together are n + m times, and n
// times of m times are n m times.
func TestShares(t *testing.T) {
	for _, p := range few() {
		for _, n := range mixed(6) {
			for _, m := range append(mixed(3), all) {
				together := new(big.Int).Add(large(n), large(m))
				product := new(big.Int).Mul(large(n), large(m))
				got := sum(t, multiple(t, p, n), multiple(t, p, m))
				if got != multiple(t, p, narrow(together.Mod(together, order))) {
					t.Fatalf("%v times and %v times %v are not their sum", n, m, p)
				}
				both, e := point.Both(p, n, p, m)
				if sound(t, both, e) != got {
					t.Fatalf("Both of %v times and %v times %v is not their sum", n, m, p)
				}
				if multiple(t, multiple(t, p, n), m) != multiple(t, p, narrow(product.Mod(product, order))) {
					t.Fatalf("%v times of %v times %v are not their product", m, n, p)
				}
			}
		}
	}
}

// TestReduced is for P6.4: what is made of points has numbers below the prime.
func TestReduced(t *testing.T) {
	for _, p := range few() {
		for _, n := range counts() {
			got := multiple(t, p, n)
			if u256.Cmp(got.X, narrow(modulus)) >= 0 || u256.Cmp(got.Y, narrow(modulus)) >= 0 {
				t.Fatalf("%v times %v is %v", n, p, got)
			}
		}
	}
}

// TestAgain is for R1: an answer is the same one each time, and the arguments
// stay.
func TestAgain(t *testing.T) {
	n, m := narrow(order), all
	for _, p := range few() {
		q := point.Base()
		first, e := point.Both(p, m, q, n)
		sound(t, first, e)
		multiple(t, q, m)
		point.Times(api.Point{X: api.U{5}}, m)
		second, e := point.Both(p, m, q, n)
		if sound(t, second, e) != first || q != point.Base() || n != narrow(order) || m != all {
			t.Fatalf("Both of %v is now %v, now %v", p, first, second)
		}
	}
}
