package sign_test

import (
	"math/big"
	"slices"
	"testing"

	"ecclesia/api"
	"ecclesia/point"
	"ecclesia/sign"
)

// TestNonces is for P7.2: the nonces, also those that are hardly ever asked
// for, and that they end where no more are.
func TestNonces(t *testing.T) {
	for _, secret := range secrets() {
		for _, digest := range digests() {
			number := plainNumber(digest)
			next, asked := plainNonces(secret, number), 0
			for nonce := range sign.Nonces(narrow(secret), narrow(number)) {
				if want := narrow(next()); nonce != want {
					t.Fatalf("nonce %d of %x and %x is %x, not %x", asked, secret, number, nonce, want)
				}
				if asked++; asked == 5 {
					break
				}
			}
			if asked != 5 {
				t.Fatalf("%d nonces of %x and %x", asked, secret, number)
			}
		}
	}
}

// TestNoncesTold is for P7.2: first nonces that others have told.
func TestNoncesTold(t *testing.T) {
	cases := []string{
		"8F8A276C19F4149656B280621E358CCE24F5F52542772691EE69063B74F15D15",
		"38AA22D72376B4DBC472E06C3BA403EE0A394DA63FC58D88686C611ABA98D6B3",
		"33A19B60E25FB6F4435AF53A3D42D493644827367E6453928554F43E49AA6F90",
		"525A82B70E67874398067543FD84C83D30C175FDC45FDEEE082FE13B1D7CFDF1",
	}
	for i, want := range cases {
		c := told()[i]
		for nonce := range sign.Nonces(narrow(number(c.secret)), narrow(plainNumber(summed(c.text)))) {
			if nonce != narrow(number(want)) {
				t.Errorf("a nonce of %s and %q is %x, not %s", c.secret, c.text, nonce, want)
			}
			break
		}
	}
}

// numberFor is the digest's number of which a secret and a nonce make that S.
func numberFor(secret, nonce, s *big.Int) *big.Int {
	made := new(big.Int).Mul(s, nonce)
	made.Sub(made, new(big.Int).Mul(plainTimes(base, nonce).x, secret))
	return made.Mod(made, order)
}

// TestPassedOver is for P7.2: nonces that are none of 1 to n - 1, and one whose
// S is 0, are passed over; of the others the first one counts.
func TestPassedOver(t *testing.T) {
	for _, secret := range secrets()[:10] {
		nonces := mixed(8, 3)
		number := numberFor(secret, nonces[0], new(big.Int))
		list := append(noSecrets(), narrow(nonces[0]))
		if got := sign.First(slices.Values(list), narrow(secret), narrow(number)); got != none {
			t.Errorf("nonces that make none make %v of %x and %x", got, secret, number)
		}
		list = append(list, narrow(nonces[1]), narrow(nonces[2]))
		got := sign.First(slices.Values(list), narrow(secret), narrow(number))
		if want, ok := plainBy(secret, number, nonces[1]); !ok || got != shown(want) {
			t.Errorf("%x and %x make %v, not %v", secret, number, got, want)
		}
	}
}

// TestEdgesOfS is for P7.2: S up to half the order stays; above that it is
// turned, and V is the other one.
func TestEdgesOfS(t *testing.T) {
	for _, secret := range secrets()[:10] {
		for _, nonce := range append(mixed(9, 4), big.NewInt(1), off(order, -1)) {
			q := plainTimes(base, nonce)
			for _, c := range []struct {
				s, want *big.Int
				turned  int
			}{
				{big.NewInt(1), big.NewInt(1), 0},
				{off(half, -1), off(half, -1), 0},
				{half, half, 0},
				{off(half, 1), half, 1},
				{off(half, 2), off(half, -1), 1},
				{off(order, -1), big.NewInt(1), 1},
			} {
				number := numberFor(secret, nonce, c.s)
				want := shown(signed{q.x, c.want, int(q.y.Bit(0)) ^ c.turned})
				got := sign.First(slices.Values([]api.U{narrow(nonce)}), narrow(secret), narrow(number))
				if got != want {
					t.Errorf("%x, %x and nonce %x make %v, not %v", secret, number, nonce, got, want)
				}
			}
		}
	}
}

// TestGreatX is for P7.2: a nonce whose point's X is the order or above is
// passed over. None is known, so that such points stand for its own.
func TestGreatX(t *testing.T) {
	some := 0
	for above := range int64(40) {
		for _, x := range []*big.Int{off(order, above), off(prime, -1-above)} {
			p, e := point.Lift(narrow(x), false)
			if e != api.OK {
				continue
			}
			some++
			if got, found := sign.By(p, api.U{3}, api.U{5}, api.U{7}); got != none || found {
				t.Errorf("a point of X %x makes %v, %v", x, got, found)
			}
		}
	}
	if some < 20 {
		t.Errorf("%d points", some)
	}
	if got, found := sign.By(point.Base(), api.U{3}, api.U{5}, api.U{7}); got == none || !found {
		t.Errorf("the base makes %v, %v", got, found)
	}
}
