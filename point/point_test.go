package point_test

import (
	"math"
	"math/big"
	"math/rand/v2"
	"testing"

	"ecclesia/api"
	"ecclesia/point"
	"ecclesia/u256"
)

const most = math.MaxUint64

var (
	none = api.Point{}
	zero = api.Point{Zero: true}
	all  = api.U{most, most, most, most}
)

// large is a number as the library has it.
func large(a api.U) *big.Int { return new(big.Int).SetBytes([]byte(u256.Bytes(a))) }

// narrow is a number of the library's, of which 2^256 goes round.
func narrow(a *big.Int) api.U {
	low := new(big.Int).And(a, large(all))
	made, _ := u256.From(string(low.Bytes()))
	return made
}

// shown is a point of the chapter's reckoning as an api.Point.
func shown(p plain) api.Point {
	if p.x == nil {
		return zero
	}
	return api.Point{X: narrow(p.x), Y: narrow(p.y)}
}

// reckoned is the way back.
func reckoned(p api.Point) plain {
	if p.Zero {
		return plain{}
	}
	return plain{large(p.X), large(p.Y)}
}

// check holds an answer against a point that is wanted.
func check(t *testing.T, got api.Point, e api.Errno, want plain, call string, arguments ...any) {
	t.Helper()
	if got != shown(want) || e != api.OK {
		t.Fatalf("%s%v = %v, %d, not %v", call, arguments, got, e, shown(want))
	}
}

// refused holds an answer against an error, which has nothing beside it.
func refused(t *testing.T, got api.Point, e, want api.Errno, call string, arguments ...any) {
	t.Helper()
	if got != none || e != want {
		t.Errorf("%s%v = %v, %d, not nothing, %d", call, arguments, got, e, want)
	}
}

// near are the numbers about a, of which 2^256 goes round.
func near(a *big.Int) []api.U {
	var list []api.U
	for step := int64(-3); step <= 3; step++ {
		list = append(list, narrow(new(big.Int).Add(a, big.NewInt(step))))
	}
	return list
}

// mixed are numbers of all lengths, the same ones at each run.
func mixed(many int) []api.U {
	source := rand.New(rand.NewPCG(6, 1))
	list := make([]api.U, many)
	for i := range list {
		whole := large(api.U{source.Uint64(), source.Uint64(), source.Uint64(), source.Uint64()})
		list[i] = narrow(whole.Rsh(whole, uint(source.IntN(256))))
	}
	return list
}

// counts are how often a point may be added: the edges, and some between.
func counts() []api.U {
	list := append(near(order), near(modulus)...)
	list = append(list, near(new(big.Int))...) // 2^256 - 3 and so on, and 0 to 3
	list = append(list, near(new(big.Int).Rsh(order, 1))...)
	for _, word := range []uint64{1, 15, 16, 1 << 63, most} {
		list = append(list, api.U{word}, api.U{0, word}, api.U{0, 0, word}, api.U{0, 0, 0, word})
	}
	return append(list, mixed(20)...)
}

// sameY are the three points that have the base's Y: their X differ by a
// number whose cube is 1.
func sameY() []plain {
	third := new(big.Int).Sub(modulus, big.NewInt(1))
	third.Div(third, big.NewInt(3))
	unit := new(big.Int).Exp(big.NewInt(2), third, modulus)
	list := []plain{plainTop}
	for range 2 {
		x := left(new(big.Int).Mul(list[len(list)-1].x, unit))
		list = append(list, plain{x, plainTop.y})
	}
	return list
}

// lowY are points whose Y is so small that p goes into 2^256 once more.
func lowY() []plain {
	return []plain{
		{number("1FE1E5EF3FCEB5C135AB7741333CE5A6E80D68167653F6B2B24BCBCFAAAFF507"), big.NewInt(1)},
		{number("C8B492E17665B9E65E4A124661E1103F1AEBFCC849DCD94F7688DCF149F6F4F2"), big.NewInt(6)},
	}
}

// lowX are points whose X is so small that p goes into 2^256 once more.
func lowX() []plain {
	var list []plain
	for _, x := range []int64{1, 2, 3, 4, 6, 8} {
		for _, y := range plainRoots(squareAt(big.NewInt(x))) {
			list = append(list, plain{big.NewInt(x), y})
		}
	}
	return list
}

// curve are points of the curve: the zero point, and those at the edges, each
// one also turned, and some between.
func curve() []plain {
	list := append(append(sameY(), lowY()...), lowX()[:4]...)
	for _, below := range []int64{3, 4} {
		x := new(big.Int).Sub(modulus, big.NewInt(below))
		list = append(list, plain{x, plainRoots(squareAt(x))[0]})
	}
	for _, n := range append(mixed(5), api.U{2}, api.U{3}, api.U{7}) {
		list = append(list, plainTimes(plainTop, large(n)))
	}
	for _, p := range list {
		list = append(list, turned(p))
	}
	return append(list, plain{})
}

// turned is a point that makes the zero point with p.
func turned(p plain) plain {
	if p.x == nil {
		return p
	}
	return plain{p.x, left(new(big.Int).Neg(p.y))}
}

// others are points that are none of the curve.
func others() []api.Point {
	base := shown(plainTop)
	list := []api.Point{
		none, {X: api.U{1}}, {Y: api.U{1}}, {X: all, Y: all}, {X: base.X}, {Y: base.Y},
		{X: base.Y, Y: base.X}, {X: base.X, Y: base.X},
		// The zero point has nothing beside Zero.
		{X: base.X, Y: base.Y, Zero: true}, {X: api.U{1}, Zero: true}, {Y: api.U{0, 0, 0, 1}, Zero: true},
		{X: narrow(modulus), Zero: true}, {Y: narrow(modulus), Zero: true}, {X: all, Y: all, Zero: true},
	}
	for bit := range 256 {
		list = append(list,
			api.Point{X: flipped(plainTop.x, bit), Y: base.Y},
			api.Point{X: base.X, Y: flipped(plainTop.y, bit)})
	}
	// What leaves a point's number, but is not reduced.
	for _, p := range lowX() {
		list = append(list, api.Point{X: narrow(new(big.Int).Add(p.x, modulus)), Y: shown(p).Y})
	}
	for _, p := range lowY() {
		list = append(list, api.Point{X: shown(p).X, Y: narrow(new(big.Int).Add(p.y, modulus))})
	}
	return list
}

// flipped is a number with one bit turned.
func flipped(a *big.Int, bit int) api.U {
	made := narrow(a)
	made[bit/64] ^= 1 << (bit % 64)
	return made
}

// TestBase is for P6.1: the base, which is one of the curve.
func TestBase(t *testing.T) {
	if got := point.Base(); got != shown(plainTop) {
		t.Errorf("Base() = %v", got)
	}
}

// TestOn is for P6.1: points of the curve.
func TestOn(t *testing.T) {
	for _, p := range append(curve(), lowX()...) {
		if !point.On(shown(p)) {
			t.Errorf("On(%v) is false", shown(p))
		}
	}
}

// TestOnNone is for P6.1: points that are none of the curve.
func TestOnNone(t *testing.T) {
	for _, p := range others() {
		if point.On(p) {
			t.Errorf("On(%v) is true", p)
		}
	}
}

// TestOnEach is for P6.1: of a point's X its Y and the turned one alone.
func TestOnEach(t *testing.T) {
	for _, x := range mixed(100) {
		roots := plainRoots(squareAt(large(x)))
		for _, y := range mixed(20) {
			if point.On(api.Point{X: x, Y: y}) {
				t.Errorf("On(%v, %v) is true", x, y)
			}
		}
		for _, y := range roots {
			for step := int64(-2); step <= 2; step++ {
				p := api.Point{X: x, Y: narrow(new(big.Int).Add(y, big.NewInt(step)))}
				if want := step == 0; point.On(p) != want {
					t.Errorf("On(%v) is not %v", p, want)
				}
			}
		}
	}
}

// TestAdd is for P6.1: each two points, among them the same one twice, one and
// the turned one, and those of one Y.
func TestAdd(t *testing.T) {
	for _, p := range curve() {
		for _, q := range curve() {
			got, e := point.Add(shown(p), shown(q))
			check(t, got, e, plainAdd(p, q), "Add", shown(p), shown(q))
		}
	}
}

// TestTurn is for P6.1: points turned, and the zero point, which stays.
func TestTurn(t *testing.T) {
	for _, p := range append(curve(), lowX()...) {
		got, e := point.Turn(shown(p))
		check(t, got, e, turned(p), "Turn", shown(p))
		back, e := point.Turn(got)
		check(t, back, e, p, "Turn", got)
	}
	got, e := point.Turn(zero)
	check(t, got, e, plain{}, "Turn", zero)
}

// TestArg is for P6.1: no call takes a point that is none of the curve, in any
// place, whatever else is handed in.
func TestArg(t *testing.T) {
	good := []api.Point{zero, point.Base()}
	times := []api.U{{}, {1}, {2}, narrow(order), all}
	for _, bad := range others() {
		got, e := point.Turn(bad)
		refused(t, got, e, api.ErrArg, "Turn", bad)
		for _, n := range times {
			got, e = point.Times(bad, n)
			refused(t, got, e, api.ErrArg, "Times", bad, n)
		}
		for _, other := range append(good, bad) {
			got, e = point.Add(bad, other)
			refused(t, got, e, api.ErrArg, "Add", bad, other)
			got, e = point.Add(other, bad)
			refused(t, got, e, api.ErrArg, "Add", other, bad)
			for _, n := range times {
				got, e = point.Both(bad, n, other, api.U{1})
				refused(t, got, e, api.ErrArg, "Both", bad, n, other, 1)
				got, e = point.Both(other, api.U{1}, bad, n)
				refused(t, got, e, api.ErrArg, "Both", other, 1, bad, n)
			}
		}
	}
}

// TestTimes is for P6.2: points so often, also above the order.
func TestTimes(t *testing.T) {
	for i, p := range curve() {
		for j, n := range counts() {
			// Each point with each number would take long.
			if i > 4 && (i+j)%8 != 0 {
				continue
			}
			got, e := point.Times(shown(p), n)
			check(t, got, e, plainTimes(p, large(n)), "Times", shown(p), n)
		}
		got, e := point.Times(shown(p), api.U{})
		check(t, got, e, plain{}, "Times", shown(p), 0)
	}
}

// TestTimesSteps is for P6.2: a point added to the zero point one time behind
// the other, from the beginning and up to beyond the order.
func TestTimesSteps(t *testing.T) {
	for _, p := range []plain{plainTop, lowY()[0], {}} {
		for _, from := range []*big.Int{new(big.Int), new(big.Int).Sub(order, big.NewInt(40))} {
			total, n := plainTimes(p, from), from
			for range 300 {
				got, e := point.Times(shown(p), narrow(n))
				check(t, got, e, total, "Times", shown(p), n)
				total, n = plainAdd(total, p), new(big.Int).Add(n, big.NewInt(1))
			}
		}
	}
}

// TestTimesBits is for P6.2: each bit of a number counts.
func TestTimesBits(t *testing.T) {
	power := plainTop
	for bit := range 256 {
		var n api.U
		n[bit/64] = 1 << (bit % 64)
		got, e := point.Times(point.Base(), n)
		check(t, got, e, power, "Times", point.Base(), n)
		power = plainAdd(power, power)
	}
}

// TestTimesTold is for P6.2: multiples of the base that others have told, the
// chapter's example among them.
func TestTimesTold(t *testing.T) {
	cases := []struct{ n, x, y string }{
		{"1", "79BE667EF9DCBBAC55A06295CE870B07029BFCDB2DCE28D959F2815B16F81798",
			"483ADA7726A3C4655DA4FBFC0E1108A8FD17B448A68554199C47D08FFB10D4B8"},
		{"2", "C6047F9441ED7D6D3045406E95C07CD85C778E4B8CEF3CA7ABAC09B95C709EE5",
			"1AE168FEA63DC339A3C58419466CEAEEF7F632653266D0E1236431A950CFE52A"},
		{"3", "F9308A019258C31049344F85F89D5229B531C845836F99B08601F113BCE036F9",
			"388F7B0F632DE8140FE337E62A37F3566500A99934C2231B6CB9FD7584B8E672"},
		{"18EBBB95EED0E13", "A90CC3D3F3E146DAADFC74CA1372207CB4B725AE708CEF713A98EDD73D99EF29",
			"5A79D6B289610C68BC3B47F3D72F9788A26A06868B4D8E433E1E2AD76FB7DC76"},
	}
	for _, c := range cases {
		n := narrow(number(c.n))
		got, e := point.Times(point.Base(), n)
		check(t, got, e, plain{number(c.x), number(c.y)}, "Times", point.Base(), n)
	}
}

// TestBoth is for P6.2: two points, each so often, added.
func TestBoth(t *testing.T) {
	list, often := curve(), counts()
	source := rand.New(rand.NewPCG(6, 2))
	for range 400 {
		p, q := list[source.IntN(len(list))], list[source.IntN(len(list))]
		n, m := often[source.IntN(len(often))], often[source.IntN(len(often))]
		got, e := point.Both(shown(p), n, shown(q), m)
		want := plainAdd(plainTimes(p, large(n)), plainTimes(q, large(m)))
		check(t, got, e, want, "Both", shown(p), n, shown(q), m)
	}
}

// TestBothSmall is for P6.2: few times of each point, with no times among them,
// for points that are the same, turned, of one Y, and zero.
func TestBothSmall(t *testing.T) {
	double := plainAdd(plainTop, plainTop)
	for _, p := range append(sameY(), plain{}) {
		for _, q := range append(sameY(), plain{}, turned(plainTop), double, turned(double)) {
			for n := range uint64(5) {
				for m := range uint64(5) {
					got, e := point.Both(shown(p), api.U{n}, shown(q), api.U{m})
					want := plainAdd(plainTimes(p, large(api.U{n})), plainTimes(q, large(api.U{m})))
					check(t, got, e, want, "Both", shown(p), n, shown(q), m)
				}
			}
		}
	}
}

// TestBothMeet is for P6.2: two shares that are the same point, or one and the
// turned one.
func TestBothMeet(t *testing.T) {
	for _, p := range curve() {
		double := plainAdd(p, p)
		for _, n := range mixed(6) {
			twice := new(big.Int).Lsh(large(n), 1)
			got, e := point.Both(shown(p), n, shown(p), n)
			check(t, got, e, plainTimes(p, twice), "Both", shown(p), n, shown(p), n)
			got, e = point.Both(shown(p), n, shown(turned(p)), n)
			check(t, got, e, plain{}, "Both", shown(p), n, shown(turned(p)), n)
			rest := narrow(new(big.Int).Mod(twice.Neg(twice), order))
			got, e = point.Both(shown(p), rest, shown(double), n)
			check(t, got, e, plain{}, "Both", shown(p), rest, shown(double), n)
		}
	}
}

// TestLift is for P6.3: points by their X, and X that no point has.
func TestLift(t *testing.T) {
	list := mixed(100)
	for x := range uint64(60) {
		list = append(list, api.U{x}, narrow(new(big.Int).Sub(modulus, large(api.U{x + 1}))))
	}
	for _, p := range curve() {
		if p.x != nil {
			list = append(list, shown(p).X)
		}
	}
	some, missing := 0, 0
	for _, x := range list {
		roots := plainRoots(squareAt(large(x)))
		for i, odd := range []bool{false, true} {
			got, e := point.Lift(x, odd)
			if roots == nil {
				missing++
				refused(t, got, e, api.ErrZero, "Lift", x, i)
				continue
			}
			some++
			check(t, got, e, plain{large(x), roots[i]}, "Lift", x, i)
			if !point.On(got) || u256.Bit(got.Y, 0) != odd {
				t.Errorf("Lift(%v, %v) = %v", x, odd, got)
			}
		}
	}
	if some < 50 || missing < 50 {
		t.Errorf("%d have a point, %d none", some, missing)
	}
}

// TestLiftArg is for P6.3: an X that is not reduced, also where what it leaves
// is a point's, or no point's.
func TestLiftArg(t *testing.T) {
	list := []api.U{all, {modulus.Uint64(), most, most, most}}
	for above := range int64(20) {
		list = append(list, narrow(new(big.Int).Add(modulus, big.NewInt(above))))
	}
	for _, x := range list {
		for i, odd := range []bool{false, true} {
			got, e := point.Lift(x, odd)
			refused(t, got, e, api.ErrArg, "Lift", x, i)
		}
	}
}

// TestLiftBack is for P6.3: a point is lifted from its X, and its Y's parity.
func TestLiftBack(t *testing.T) {
	for _, p := range append(curve(), lowX()...) {
		if p.x == nil {
			continue
		}
		got, e := point.Lift(shown(p).X, p.y.Bit(0) == 1)
		check(t, got, e, p, "Lift", shown(p).X, p.y.Bit(0))
	}
}

func BenchmarkTimes(b *testing.B) {
	n := narrow(new(big.Int).Sub(order, plainTop.x))
	for b.Loop() {
		point.Times(point.Base(), n)
	}
}

func BenchmarkBoth(b *testing.B) {
	n, m := narrow(new(big.Int).Sub(order, plainTop.x)), narrow(plainTop.y)
	p := shown(sameY()[1])
	for b.Loop() {
		point.Both(point.Base(), n, p, m)
	}
}
