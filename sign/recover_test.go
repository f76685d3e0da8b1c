package sign_test

import (
	"crypto/sha256"
	"math/big"
	"testing"

	"ecclesia/api"
	"ecclesia/sign"
)

// summed is a text's SHA-256.
func summed(text string) string {
	made := sha256.Sum256([]byte(text))
	return string(made[:])
}

// checkRecover holds a signature that may be against the chapter's reckoning,
// and tells whether it leads to an address.
func checkRecover(t *testing.T, digest string, s signed) bool {
	t.Helper()
	got, e := sign.Recover(digest, shown(s))
	want, ok := plainRecover(digest, s)
	if !ok {
		noText(t, got, e, api.ErrSign, "Recover", digest, shown(s))
	} else if got != want || len(got) != 20 || e != api.OK {
		t.Errorf("Recover(%X, %v) = %X, %d, not %X", digest, shown(s), got, e, want)
	}
	return ok
}

// TestRecover is for P7.3: signatures that nobody made, of R that are a point's
// X and R that are none's.
func TestRecover(t *testing.T) {
	list, some, missing := digests(), 0, 0
	for i, s := range good() {
		// Each one would take long.
		if i%3 != 0 && s.r.BitLen() > 2 {
			continue
		}
		if checkRecover(t, list[i%len(list)], s) {
			some++
		} else {
			missing++
		}
	}
	if some < 20 || missing < 5 {
		t.Errorf("%d are of somebody, %d of nobody", some, missing)
	}
}

// TestRecoverDigests is for P7.3: two signatures, of each digest.
func TestRecoverDigests(t *testing.T) {
	for _, digest := range digests() {
		checkRecover(t, digest, signed{base.x, half, 0})
		checkRecover(t, digest, signed{base.x, off(half, -3), 1})
	}
}

// TestRecoverNoPoint is for P7.3: an R that is no point's X, with either V.
func TestRecoverNoPoint(t *testing.T) {
	missing := 0
	for x := int64(1); x <= 40; x++ {
		for _, r := range []*big.Int{big.NewInt(x), off(order, -x)} {
			for v := range 2 {
				_, ok := plainLift(r, v)
				got, e := sign.Recover(digests()[4], shown(signed{r, half, v}))
				if ok && (len(got) != 20 || e != api.OK) {
					t.Errorf("Recover of R %x is %X, %d", r, got, e)
				}
				if !ok {
					missing++
					noText(t, got, e, api.ErrSign, "Recover of R", r, v)
				}
			}
		}
	}
	if missing < 50 {
		t.Errorf("%d are of no point", missing)
	}
}

// TestRecoverZero is for P7.3: signatures that would lead to the zero point,
// as their point times S, and the base times the digest's number, are one.
func TestRecoverZero(t *testing.T) {
	for _, nonce := range append(mixed(6, 4), big.NewInt(1), big.NewInt(2), off(order, -1)) {
		q := plainTimes(base, nonce)
		for _, s := range []*big.Int{big.NewInt(1), big.NewInt(5), half} {
			same := new(big.Int).Mul(nonce, s)
			same.Mod(same, order)
			made := signed{q.x, s, int(q.y.Bit(0))}
			got, e := sign.Recover(wide(same), shown(made))
			noText(t, got, e, api.ErrSign, "Recover", same, shown(made))
			other := new(big.Int).Sub(order, same)
			if !checkRecover(t, wide(other), made) {
				t.Errorf("%v of %x leads to no address", shown(made), other)
			}
			made.v = 1 - made.v
			got, e = sign.Recover(wide(other), shown(made))
			noText(t, got, e, api.ErrSign, "Recover", other, shown(made))
		}
	}
}

// TestRecoverBad is for P7.3: signatures that may not be, and texts that are no
// digest, which is told first.
func TestRecoverBad(t *testing.T) {
	for _, s := range bad() {
		for _, digest := range digests() {
			got, e := sign.Recover(digest, s)
			noText(t, got, e, api.ErrSign, "Recover", digest, s)
		}
		for _, digest := range noDigests() {
			got, e := sign.Recover(digest, s)
			noText(t, got, e, api.ErrArg, "Recover", digest, s)
		}
	}
	for _, s := range good() {
		for _, digest := range noDigests() {
			got, e := sign.Recover(digest, shown(s))
			noText(t, got, e, api.ErrArg, "Recover", digest, shown(s))
		}
	}
}

// TestSigned is for P7.4: what is signed is recovered as the secret's address;
// with S turned it may not be, with another V or digest it is not.
func TestSigned(t *testing.T) {
	for _, secret := range secrets() {
		address, e := sign.Address(narrow(secret))
		if e != api.OK {
			t.Fatalf("Address(%x) = %X, %d", secret, address, e)
		}
		for _, digest := range digests() {
			s, e := sign.Sign(narrow(secret), digest)
			if e != api.OK || !plainMay(reckoned(s)) {
				t.Fatalf("Sign(%x, %X) = %v, %d", secret, digest, s, e)
			}
			if got, e := sign.Recover(digest, s); got != address || e != api.OK {
				t.Fatalf("Recover(%X, %v) = %X, %d, not %X", digest, s, got, e, address)
			}
			other := s
			other.V = 1 - s.V
			if got, _ := sign.Recover(digest, other); got == address {
				t.Errorf("Recover(%X, %v) = %X too", digest, other, got)
			}
			refuseTurned(t, digest, s)
		}
		s, _ := sign.Sign(narrow(secret), summed("this"))
		if got, _ := sign.Recover(summed("that"), s); got == address {
			t.Errorf("%v of one text is %X's of another one too", s, address)
		}
	}
}

// refuseTurned holds a signature with S turned to be none, with either V.
func refuseTurned(t *testing.T, digest string, s api.Sig) {
	t.Helper()
	s.S = narrow(new(big.Int).Sub(order, large(s.S)))
	for v := range 2 {
		s.V = v
		text, e := sign.Bytes(s)
		noText(t, text, e, api.ErrArg, "Bytes", s)
		text, e = sign.Recover(digest, s)
		noText(t, text, e, api.ErrSign, "Recover", digest, s)
		whole := plainBytes(reckoned(s))
		back, e := sign.From(whole)
		noSig(t, back, e, api.ErrForm, "From", []byte(whole))
	}
}

// TestAgain is for R1: an answer is the same one each time, whatever is asked
// in between.
func TestAgain(t *testing.T) {
	for _, secret := range secrets()[:6] {
		for _, digest := range digests()[:3] {
			first, e := sign.Sign(narrow(secret), digest)
			address, _ := sign.Recover(digest, first)
			sign.Sign(api.U{9}, summed(digest))
			sign.Recover(summed(digest), first)
			sign.From("\xFF")
			second, f := sign.Sign(narrow(secret), digest)
			if again, _ := sign.Recover(digest, first); first != second || e != f || again != address {
				t.Fatalf("Sign(%x, %X) is now %v of %X, now %v of %X", secret, digest, first, address, second, again)
			}
		}
	}
}

func BenchmarkSign(b *testing.B) {
	digest := summed("a text")
	for b.Loop() {
		sign.Sign(narrow(half), digest)
	}
}

func BenchmarkRecover(b *testing.B) {
	digest := summed("a text")
	s, _ := sign.Sign(narrow(half), digest)
	for b.Loop() {
		sign.Recover(digest, s)
	}
}
