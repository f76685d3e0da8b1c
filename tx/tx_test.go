package tx_test

import (
	"fmt"
	"math"
	"math/big"
	"math/rand/v2"
	"strings"
	"testing"
	"unsafe"

	"ecclesia/api"
	"ecclesia/field"
	"ecclesia/point"
	"ecclesia/sign"
	"ecclesia/tx"
	"ecclesia/u256"
)

const most = math.MaxUint64

// text is bytes of all kinds, the same ones at each run.
func text(size int) string {
	made := make([]byte, size)
	rand.NewChaCha8([32]byte{14}).Read(made)
	return string(made)
}

// addresses are texts of 20 bytes.
func addresses() []string {
	return []string{strings.Repeat("t", 20), strings.Repeat("\x00", 20), strings.Repeat("\xff", 20), text(20), "\x94" + text(19), text(19) + "\x80"}
}

// noAddresses are texts of other lengths, some of them 20 runes.
func noAddresses() []string {
	list := []string{"", strings.Repeat("\xC3\xA4", 20), strings.Repeat("\xC3\xA4", 10) + "a"}
	for _, size := range []int{1, 2, 10, 18, 19, 21, 22, 31, 32, 40, 55, 56, 64, 65, 256 + 20, 4000, 4001, 65536 + 20} {
		list = append(list, text(size), strings.Repeat("\x00", size))
	}
	return list
}

// numbers are those of all lengths in a record, and about them.
func numbers() []uint64 {
	list := []uint64{0, 1, 2, 5, 126, 127, 128, 129, 255, 256, 1000, most, most - 1, 1 << 63, 1<<63 - 1}
	for bits := 16; bits < 64; bits += 8 {
		list = append(list, 1<<bits-1, 1<<bits, 1<<bits+1)
	}
	return list
}

// less is a number of the library's, less so many.
func less(a *big.Int, by int64) api.U { return narrow(new(big.Int).Sub(a, big.NewInt(by))) }

// all is the greatest number.
var all = api.U{most, most, most, most}

// secrets are numbers that are secrets, noSecrets such that are none.
func secrets() []api.U {
	return []api.U{{1}, {2}, {3}, {0, 1}, {0, 0, 0, 1 << 62}, narrow(half), less(half, -1), less(order, 2), less(order, 1)}
}

func noSecrets() []api.U {
	return []api.U{{}, narrow(order), less(order, -1), less(order, -5), all}
}

// base is some signature that may be.
func base() api.Sig { return api.Sig{R: api.U{4, 3, 2, 1}, S: api.U{8, 7, 6, 5}, V: 1} }

// good are signatures that may be, with the edges.
func good() []api.Sig {
	list := []api.Sig{base()}
	for _, r := range []api.U{{1}, {0, 0, 0, 1}, point.Base().X, narrow(half), less(order, 1)} {
		for _, s := range []api.U{{1}, {0, 1}, less(half, 1), narrow(half)} {
			list = append(list, api.Sig{R: r, S: s}, api.Sig{R: r, S: s, V: 1})
		}
	}
	return list
}

// bad are signatures that may not be: none, and such with one thing beyond its
// edges.
func bad() []api.Sig {
	list := []api.Sig{{}, {V: 1}, {R: all, S: all, V: 1}, {R: api.U{1}}, {S: api.U{1}}}
	for _, s := range good()[:4] {
		for _, r := range noSecrets() {
			list = append(list, api.Sig{R: r, S: s.S, V: s.V})
		}
		turned, _ := field.Sub(api.U{}, s.S, 1)
		for _, high := range append(noSecrets(), less(half, -1), less(order, 1), turned, api.U{0, 0, 0, 1 << 63}) {
			list = append(list, api.Sig{R: s.R, S: high, V: s.V})
		}
		for _, v := range []int{-1, -2, 2, 3, 27, 28, 255, 256, 257, 1 << 32, 1<<32 + 1, math.MinInt, math.MinInt + 1, math.MaxInt} {
			list = append(list, api.Sig{R: s.R, S: s.S, V: v})
		}
	}
	return list
}

// goods are transfers that may be: each number in each place, each signature,
// each address.
func goods() []api.Tx {
	var list []api.Tx
	for _, n := range numbers() {
		list = append(list, api.Tx{To: text(20), Amount: n, Nonce: 7, Sig: base()}, api.Tx{To: text(20), Amount: 300, Nonce: n, Sig: base()})
	}
	for _, sig := range good() {
		list = append(list, api.Tx{To: text(20), Amount: 128, Nonce: 127, Sig: sig})
	}
	for _, to := range addresses() {
		list = append(list, api.Tx{To: to, Sig: base()}, api.Tx{To: to, Amount: most, Nonce: most, Sig: base()})
	}
	return list
}

// bads are transfers that may not be.
func bads() []api.Tx {
	list := []api.Tx{{}, {Amount: 1, Nonce: 1}}
	for _, to := range noAddresses() {
		list = append(list, api.Tx{To: to, Amount: 5, Nonce: 1, Sig: base()}, api.Tx{To: to, Sig: api.Sig{}}, api.Tx{To: to, Sig: bad()[10]})
	}
	for _, sig := range bad() {
		list = append(list, api.Tx{To: text(20), Amount: 5, Nonce: 1, Sig: sig})
	}
	return list
}

// shown is a transfer as far as a message needs it.
func shown(t api.Tx) string {
	return fmt.Sprintf("To %d bytes %.20x, Amount %d, Nonce %d, Sig %x", len(t.To), t.To, t.Amount, t.Nonce, t.Sig)
}

// same holds bytes that a call answers against what is wanted.
func same(t *testing.T, call string, x api.Tx, got string, e api.Errno, want string, errno api.Errno) {
	t.Helper()
	if got != want || e != errno {
		t.Fatalf("%s of %s answers %X, %d, not %X, %d", call, shown(x), got, e, want, errno)
	}
}

// sameTx does so for a transfer.
func sameTx(t *testing.T, call string, got api.Tx, e api.Errno, want api.Tx, errno api.Errno) {
	t.Helper()
	if got != want || e != errno {
		t.Fatalf("%s answers %s, %d, not %s, %d", call, shown(got), e, shown(want), errno)
	}
}

// plainly holds all that is told of a transfer, but its sender, against what the
// chapter says.
func plainly(t *testing.T, x api.Tx) {
	t.Helper()
	if want := plainRight(x); tx.Right(x) != want {
		t.Fatalf("Right of %s is not %t", shown(x), want)
	}
	got, e := tx.Digest(x)
	want, errno := plainDigest(x)
	same(t, "Digest", x, got, e, want, errno)
	got, e = tx.Sum(x)
	want, errno = plainSum(x)
	same(t, "Sum", x, got, e, want, errno)
	got, e = tx.Bytes(x)
	want, errno = plainBytes(x)
	same(t, "Bytes", x, got, e, want, errno)
}

// sender holds a transfer's sender against what is wanted.
func sender(t *testing.T, x api.Tx, want string, errno api.Errno) {
	t.Helper()
	got, e := tx.Sender(x)
	same(t, "Sender", x, got, e, want, errno)
}

// read holds Read against what the chapter says, and answers if there is one.
func read(t *testing.T, s string) bool {
	t.Helper()
	got, e := tx.Read(s)
	want, errno := plainRead(s)
	sameTx(t, fmt.Sprintf("Read of %d bytes %.120X", len(s), s), got, e, want, errno)
	if e != api.OK {
		return false
	}
	back, e := tx.Bytes(got)
	same(t, "Bytes", got, back, e, s, api.OK)
	return true
}

// none holds that bytes are no transfer's.
func none(t *testing.T, s string) {
	t.Helper()
	got, e := tx.Read(s)
	sameTx(t, fmt.Sprintf("Read of %d bytes %.120X", len(s), s), got, e, api.Tx{}, api.ErrForm)
	if read(t, s) {
		t.Fatalf("%X are a transfer's", s)
	}
}

// told are transfers with all that is made of them, in hexadecimal.
type told struct {
	secret         api.U
	to             string
	amount, nonce  uint64
	r, s           string
	v              int
	digest, ahead  string
	sum, addressed string
}

func tolds() []told {
	return []told{
		{api.U{1}, "7474747474747474747474747474747474747474", 5, 0,
			"27091ABBA48B2DBFC7D4EEFB660380109CFFA3BFFC223795D73BCFB26E52D600",
			"55CAE137B397C10AD2CE12237E0C2BDE6AFF08B16C6FFA3C18480F0F4FF76EC3", 1,
			"BFF6FE1E2D9F6209B797C65730E21BAC601AA7872D2169122EC38DA44EFC25DC",
			"F85A9474747474747474747474747474747474747474740580B841",
			"0BAE83D1C49F0FDF8110A9343556A779C16BDFD5A23440A58F2B7C5BDD3E7314",
			"7E5F4552091A69125D5DFCB7B8C2659029395BDF"},
		{api.U{2}, "7E5F4552091A69125D5DFCB7B8C2659029395BDF", most, 128,
			"2D0074C1C2AB85639415A8CE94DE5409686EC1564ABF3E7CC1DB9CD6CBCD7EBD",
			"1565F8D1F425AD9AB3DAA08922595B05857348339DD30AFF30960BE6A3A8BDF2", 1,
			"988A7598C3DBA9419B2D8F42684C1F6081D28705D2192009B826989E87C47A4A",
			"F863947E5F4552091A69125D5DFCB7B8C2659029395BDF88FFFFFFFFFFFFFFFF8180B841",
			"164274D3CA825E9919A39503024C09E498CBB74B46BCF5CE00ACD3148470793C",
			"2B5AD5C4795C026514F8317C7A215E218DCCD6CF"},
		{less(order, 1), "0000000000000000000000000000000000000000", 0, most,
			"15286804B1A7665BC7107EEC856DB7ED3E00FDFE5C3071D68B57CC41211C5DFD",
			"3C27DD1CA68EE195C3A326B01C2EF214956FED6477DDE0D3F33F516D8B1E60AC", 0,
			"073BF3151AECC2700396AAB513A995BECC160D65AFC3E7C941C70AB6F5D2FAEA",
			"F8629400000000000000000000000000000000000000008088FFFFFFFFFFFFFFFFB841",
			"0757063FBFDC036B460720DC538A561E37C45B75A41BA5FF257541C44A77BED5",
			"80C0DBF239224071C59DD8970AB9D542E3414AB2"},
		{api.U{3}, "000102030405060708090A0B0C0D0E0F10111213", 1000, 3,
			"4516D87490A3317747988945484FD4A6B97C7198A10DC30DA81950AD520A59DE",
			"79338B7F0315088ECA6A67866FA8BB468FFD602B187CFCBF0541AB23B366B4AF", 1,
			"1BD42404C6DE0E2D0376B15D4D27D3AB992100CA3E52518F0958001599CBD5F1",
			"F85C94000102030405060708090A0B0C0D0E0F101112138203E803B841",
			"E6773F2F7FAB0C00BCAD5600593455C9131493E829A687C5E331FD284EFAFB3E",
			"6813EB9362372EEF6200F3B1DBC3F819671CBA69"},
	}
}

// TestTold is for P14.1 and P14.2: answers that are written out.
func TestTold(t *testing.T) {
	for _, c := range tolds() {
		want := api.Tx{To: hexed(c.to), Amount: c.amount, Nonce: c.nonce, Sig: api.Sig{R: narrow(large(c.r)), S: narrow(large(c.s)), V: c.v}}
		x, e := tx.Sign(c.secret, hexed(c.to), c.amount, c.nonce)
		sameTx(t, "Sign", x, e, want, api.OK)
		if !tx.Right(x) {
			t.Errorf("%s may not be", shown(x))
		}
		got, e := tx.Digest(x)
		same(t, "Digest", x, got, e, hexed(c.digest), api.OK)
		whole := hexed(c.ahead + c.r + c.s + fmt.Sprintf("%02X", c.v))
		got, e = tx.Bytes(x)
		same(t, "Bytes", x, got, e, whole, api.OK)
		got, e = tx.Sum(x)
		same(t, "Sum", x, got, e, hexed(c.sum), api.OK)
		sender(t, x, hexed(c.addressed), api.OK)
		back, e := tx.Read(whole)
		sameTx(t, "Read", back, e, x, api.OK)
	}
}

// TestExample is for P14.2: the chapter's example.
func TestExample(t *testing.T) {
	for _, to := range addresses() {
		x, e := tx.Sign(api.U{1}, to, 5, 0)
		if e != api.OK {
			t.Fatalf("Sign answers %d", e)
		}
		sender(t, x, hexed("7E5F4552091A69125D5DFCB7B8C2659029395BDF"), api.OK)
	}
}

// TestGood is for P14.1: transfers that may be, with the edges of all in them.
func TestGood(t *testing.T) {
	for _, x := range goods() {
		plainly(t, x)
		s, _ := tx.Bytes(x)
		back, e := tx.Read(s)
		sameTx(t, "Read", back, e, x, api.OK)
		read(t, s)
	}
}

// TestBad is for P14.1 and P14.2: transfers that may not be; a digest is there if
// To has 20 bytes, whatever the signature is.
func TestBad(t *testing.T) {
	for _, x := range bads() {
		if tx.Right(x) {
			t.Fatalf("%s may be", shown(x))
		}
		got, e := tx.Sum(x)
		same(t, "Sum", x, got, e, "", api.ErrArg)
		got, e = tx.Bytes(x)
		same(t, "Bytes", x, got, e, "", api.ErrArg)
		sender(t, x, "", api.ErrArg)
		got, e = tx.Digest(x)
		if len(x.To) != 20 {
			same(t, "Digest", x, got, e, "", api.ErrArg)
		} else if len(got) != 32 || e != api.OK {
			t.Fatalf("Digest of %s answers %X, %d", shown(x), got, e)
		}
		plainly(t, x)
	}
}

// TestDigest is for P14.1: a digest is another one if anything but the signature
// is, and the same one if that alone is another; a sum is another one each time.
func TestDigest(t *testing.T) {
	digests, sums := map[string]bool{}, map[string]bool{}
	for _, x := range goods() {
		digest, _ := tx.Digest(x)
		sum, _ := tx.Sum(x)
		digests[digest], sums[sum] = true, true
		x.Sig = api.Sig{R: api.U{9}, S: api.U{9}}
		other, e := tx.Digest(x)
		same(t, "Digest", x, other, e, digest, api.OK)
	}
	wantDigests, wantSums := map[api.Tx]bool{}, map[api.Tx]bool{}
	for _, x := range goods() {
		wantSums[x] = true
		x.Sig = api.Sig{}
		wantDigests[x] = true
	}
	if len(digests) != len(wantDigests) || len(sums) != len(wantSums) || len(sums) < 60 {
		t.Errorf("%d digests and %d sums, not %d and %d", len(digests), len(sums), len(wantDigests), len(wantSums))
	}
	turned := api.Tx{To: text(20), Amount: 3, Nonce: 4}
	one, _ := tx.Digest(turned)
	turned.Amount, turned.Nonce = 4, 3
	if other, _ := tx.Digest(turned); one == other {
		t.Error("Amount and Nonce turned about leave the digest")
	}
}

// TestSign is for P14.2 and P14.3: what is signed may be, and its sender is the
// secret's address.
func TestSign(t *testing.T) {
	var many [2]int
	to := addresses()
	for i, secret := range secrets() {
		address, _ := sign.Address(secret)
		for j, n := range numbers()[:13] {
			x, e := tx.Sign(secret, to[(i+j)%len(to)], n, numbers()[(i+j)%13])
			want, errno := plainSign(secret, to[(i+j)%len(to)], n, numbers()[(i+j)%13])
			sameTx(t, "Sign", x, e, want, errno)
			if !tx.Right(x) || e != api.OK {
				t.Fatalf("Sign answers %s, %d", shown(x), e)
			}
			sender(t, x, address, api.OK)
			s, _ := tx.Bytes(x)
			back, e := tx.Read(s)
			sameTx(t, "Read", back, e, x, api.OK)
			many[x.Sig.V]++
		}
	}
	if many[0] < 20 || many[1] < 20 {
		t.Errorf("transfers with signatures of V 0 and 1: %v", many)
	}
}

// TestSignArg is for P14.2: what is no secret, no address, or neither.
func TestSignArg(t *testing.T) {
	for _, secret := range noSecrets() {
		for _, to := range append(noAddresses(), addresses()...) {
			x, e := tx.Sign(secret, to, 5, 1)
			sameTx(t, fmt.Sprintf("Sign of secret %x, to %d bytes,", secret, len(to)), x, e, api.Tx{}, api.ErrArg)
		}
	}
	for _, secret := range secrets() {
		for _, to := range noAddresses() {
			x, e := tx.Sign(secret, to, 5, 1)
			sameTx(t, fmt.Sprintf("Sign of secret %x, to %d bytes,", secret, len(to)), x, e, api.Tx{}, api.ErrArg)
		}
	}
}

// TestSender is for P14.2: senders of transfers of which one thing is another
// than what was signed are others, or none.
func TestSender(t *testing.T) {
	x, _ := tx.Sign(api.U{5}, text(20), 40, 3)
	address, _ := sign.Address(api.U{5})
	sender(t, x, address, api.OK)
	others := []api.Tx{x, x, x, x, x, x, x}
	others[0].To = text(19) + "\x00"
	others[1].Amount++
	others[2].Nonce++
	others[3].Amount, others[3].Nonce = x.Nonce, x.Amount
	others[4].Sig.V = 1 - x.Sig.V
	others[5].Sig.S[0] ^= 1
	others[6].Sig.R = point.Base().X
	for _, other := range others {
		want, errno := plainSender(other)
		sender(t, other, want, errno)
		if want == address {
			t.Errorf("%s is of the same sender", shown(other))
		}
	}
}

// TestSenderNone is for P14.2: signatures that lead to no address, as no point has
// R as X; that may not be ahead of that; and whose R is any.
func TestSenderNone(t *testing.T) {
	var many [2]int
	for r := range uint64(40) {
		x := api.Tx{To: text(20), Amount: 1, Sig: api.Sig{R: api.U{r + 1}, S: api.U{1}, V: int(r % 2)}}
		want, errno := plainSender(x)
		if _, e := point.Lift(x.Sig.R, false); e == api.OK {
			many[0]++
		} else {
			want, errno = "", api.ErrSign
			many[1]++
			for _, to := range noAddresses()[:8] {
				sender(t, api.Tx{To: to, Amount: 1, Sig: x.Sig}, "", api.ErrArg)
			}
			sender(t, api.Tx{To: x.To, Amount: 1, Sig: api.Sig{R: x.Sig.R, S: x.Sig.S, V: 2}}, "", api.ErrArg)
			sender(t, api.Tx{To: x.To, Amount: 1, Sig: api.Sig{R: x.Sig.R}}, "", api.ErrArg)
		}
		sender(t, x, want, errno)
	}
	if many[0] < 10 || many[1] < 10 {
		t.Errorf("R that points have, and others: %v", many)
	}
}

// TestSenderZero is for P14.2: signatures that lead to the zero point.
func TestSenderZero(t *testing.T) {
	for k := range uint64(6) {
		x := api.Tx{To: text(20), Amount: k, Nonce: 9}
		digest, _ := tx.Digest(x)
		whole, _ := u256.From(digest)
		e, _ := field.Reduce(whole, api.U{}, 1)
		q, _ := point.Times(point.Base(), api.U{k + 1})
		inverse, _ := field.Inv(api.U{k + 1}, 1)
		x.Sig.R, _ = field.Reduce(q.X, api.U{}, 1)
		x.Sig.S, _ = field.Mul(e, inverse, 1)
		x.Sig.V = int(q.Y[0] & 1)
		if !plainMay(x.Sig) {
			x.Sig.S, _ = field.Sub(api.U{}, x.Sig.S, 1)
			x.Sig.V = 1 - x.Sig.V
		}
		if !tx.Right(x) {
			t.Fatalf("%s may not be", shown(x))
		}
		sender(t, x, "", api.ErrSign)
	}
}

// TestReadBits is for P14.1: bytes of which a bit is turned, or one is left out or
// put in, are those of another transfer, or of none.
func TestReadBits(t *testing.T) {
	some, missing := 0, 0
	for _, x := range goods() {
		s, _ := tx.Bytes(x)
		for at := range len(s) {
			for bit := range 8 {
				made := []byte(s)
				made[at] ^= 1 << bit
				if read(t, string(made)) {
					some++
				} else {
					missing++
				}
			}
			none(t, s[:at])
			none(t, s[:at]+s[at+1:])
			none(t, s[:at]+"\x00"+s[at:])
			none(t, s[:at]+"\x01"+s[at:])
		}
		for _, behind := range []string{"\x00", "\x80", "\xC0", "x", s} {
			none(t, s+behind)
			none(t, behind+s)
		}
	}
	if some < 10000 || missing < 1000 {
		t.Errorf("%d are a transfer's, %d none's", some, missing)
	}
}

// TestReadSig is for P14.1: records whose signature may not be, but for that in
// order.
func TestReadSig(t *testing.T) {
	for _, sig := range bad() {
		if sig.V >= 0 && sig.V < 256 {
			none(t, plainRecord(text(20), "\x05", "\x80", plainSig(sig)))
		}
	}
	for v := range 256 {
		if s := plainSig(base()); read(t, plainRecord(text(20), "\x05", "\x80", s[:64]+string([]byte{byte(v)}))) != (v < 2) {
			t.Errorf("V %d", v)
		}
	}
	for size := range 256 - 24 {
		if size > 55 && size != 65 {
			none(t, plainRecord(text(20), "\x05", "\x80", (plainSig(base()) + strings.Repeat("\x01", 200))[:size]))
		}
	}
}

// TestReadNumber is for P14.1: numbers in other writings than their shortest one,
// of more than 8 bytes, or that are none.
func TestReadNumber(t *testing.T) {
	sig := plainSig(base())
	for _, n := range numbers() {
		if !read(t, plainRecord(text(20), plainNumber(n), plainNumber(n), sig)) {
			t.Fatalf("%d can't be read", n)
		}
	}
	wrong := []string{"\x00", "\x81\x00", "\x81\x01", "\x81\x7f", "\x82\x00\x80", "\x82\x00\x01", "\x83\x00\x00\x00", "\xB8\x01\x80", "\xB8\x02\x01\x00",
		"\x89\x01" + strings.Repeat("\x00", 8), "\x89\x00" + strings.Repeat("\xff", 8), "\x88\x00" + strings.Repeat("\xff", 7),
		"\x94" + strings.Repeat("\x01", 20), "\xC0", "\xC1\x05", "\xC1\x80", "", "\x05\x05", "\x05\x80\x80"}
	for _, one := range wrong {
		none(t, plainRecord(text(20), one, "\x05", sig))
		none(t, plainRecord(text(20), "\x05", one, sig))
		none(t, plainRecord(text(20), one, one, sig))
	}
	// A digit that moves from one number to the other one would leave the length.
	none(t, plainRecord(text(20), "", "\x05\x06\x07", sig))
}

// TestReadTo is for P14.1: records whose address has not 20 bytes.
func TestReadTo(t *testing.T) {
	for size := range 56 {
		s := plainRecord(text(size), "\x05", "\x80", plainSig(base()))
		if size != 1 && read(t, s) != (size == 20) {
			t.Errorf("To of %d bytes: %X", size, s)
		}
	}
}

// TestReadOther is for P14.1: bytes that are something else, too long or too deep;
// each of these is ErrForm too.
func TestReadOther(t *testing.T) {
	x := goods()[0]
	s, _ := tx.Bytes(x)
	none(t, plainSigned(x))
	none(t, "\xF8\x5D\x82tx"+s[2:])
	none(t, "\xF8\x5B\xF8"+s[1:])
	none(t, "\xB8"+s[1:])
	none(t, "\xF9\x00"+s[1:])
	none(t, s[2:])
	for _, other := range []string{"", "\x00", "\x80", "\xC0", "\xC4\x80\x80\x80\x80", "\xff", "\xF8", "\xF9", "\xBF", text(20), text(91), text(100)} {
		none(t, other)
	}
	for _, size := range []int{3999, 4000, 4001, 5000, 1 << 20} {
		none(t, text(size))
		none(t, s+strings.Repeat("\x00", size))
		none(t, strings.Repeat("\x80", size))
		none(t, strings.Repeat("\xC0", size))
	}
	deep := "\xC0"
	for range 20 {
		deep = string([]byte{0xC0 + byte(len(deep))}) + deep
		none(t, deep)
	}
	none(t, "\xF9\x0F\x9D"+strings.Repeat("\x80", 3997))
	none(t, "\xF9\x0F\x9E"+strings.Repeat("\x80", 3998))
}

// TestBothWays is for P14.3: transfers and their bytes lead to one another, whatever
// is in them.
func TestBothWays(t *testing.T) {
	source := rand.New(rand.NewPCG(14, 3))
	for range 3000 {
		x := api.Tx{Amount: source.Uint64() >> source.UintN(65), Nonce: source.Uint64() >> source.UintN(65)}
		to := make([]byte, 20)
		for i := range to {
			to[i] = byte(source.UintN(256))
		}
		x.To = string(to)
		x.Sig.R = api.U{source.Uint64(), source.Uint64(), source.Uint64(), source.Uint64() >> source.UintN(65)}
		x.Sig.S = api.U{source.Uint64(), source.Uint64(), source.Uint64(), source.Uint64() >> source.UintN(65)}
		x.Sig.V = int(source.UintN(2))
		plainly(t, x)
		if s, e := tx.Bytes(x); e == api.OK {
			back, e := tx.Read(s)
			sameTx(t, "Read", back, e, x, api.OK)
		}
	}
}

// apart holds that two texts share no memory.
func apart(t *testing.T, call, one, other string) {
	t.Helper()
	start, begun := uintptr(unsafe.Pointer(unsafe.StringData(one))), uintptr(unsafe.Pointer(unsafe.StringData(other)))
	if start < begun+uintptr(len(other)) && begun < start+uintptr(len(one)) {
		t.Errorf("what %s answers shares memory with what it was handed", call)
	}
}

// TestAlone is for P14.1 and P14.2: an answer is new memory, and hangs on no call
// that was ahead of it.
func TestAlone(t *testing.T) {
	long := strings.Repeat("t", 4000)
	to := long[1000:1020]
	x, _ := tx.Sign(api.U{1}, to, 5, 0)
	apart(t, "Sign", x.To, to)
	s, _ := tx.Bytes(x)
	apart(t, "Bytes", s, x.To)
	y, _ := tx.Read(s)
	apart(t, "Read", y.To, s)
	tx.Read("x")
	tx.Sign(api.U{}, to, 5, 0)
	tx.Sender(api.Tx{})
	again, e := tx.Sign(api.U{1}, to, 5, 0)
	sameTx(t, "Sign", again, e, x, api.OK)
	sender(t, again, hexed("7E5F4552091A69125D5DFCB7B8C2659029395BDF"), api.OK)
}

func FuzzRead(f *testing.F) {
	for _, x := range goods() {
		s, _ := tx.Bytes(x)
		f.Add(s)
	}
	f.Fuzz(func(t *testing.T, s string) { read(t, s) })
}

func FuzzTx(f *testing.F) {
	f.Add(text(20), uint64(5), uint64(0), plainSig(base()))
	f.Fuzz(func(t *testing.T, to string, amount, nonce uint64, sig string) {
		sig += strings.Repeat("\x00", 65)
		r, _ := u256.From(sig[:32])
		s, _ := u256.From(sig[32:64])
		x := api.Tx{To: to, Amount: amount, Nonce: nonce, Sig: api.Sig{R: r, S: s, V: int(sig[64])}}
		plainly(t, x)
		want, errno := plainSender(x)
		sender(t, x, want, errno)
	})
}

func BenchmarkSign(b *testing.B) {
	for b.Loop() {
		tx.Sign(api.U{1}, text(20), 5, 0)
	}
}

func BenchmarkSender(b *testing.B) {
	x, _ := tx.Sign(api.U{1}, text(20), 5, 0)
	for b.Loop() {
		tx.Sender(x)
	}
}

func BenchmarkRead(b *testing.B) {
	x, _ := tx.Sign(api.U{1}, text(20), 5, 0)
	s, _ := tx.Bytes(x)
	for b.Loop() {
		tx.Read(s)
	}
}
