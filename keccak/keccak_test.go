package keccak_test

import (
	"crypto/sha3"
	"encoding/hex"
	"math"
	"slices"
	"strconv"
	"strings"
	"testing"

	"ecclesia/keccak"
)

const most = math.MaxUint64

// source answers words, one behind the other, the same ones at each run.
func source() func() uint64 {
	word := uint64(0x9E3779B97F4A7C15)
	return func() uint64 {
		word ^= word << 13
		word ^= word >> 7
		word ^= word << 17
		return word
	}
}

// text is bytes of all kinds, the same ones at each run.
func text(size int) string {
	next := source()
	made := make([]byte, size)
	for i := range made {
		made[i] = byte(next() >> 20)
	}
	return string(made)
}

// states are those at the edges, and some between.
func states() []state {
	var full, rising state
	for i := range full {
		full[i], rising[i] = most, uint64(i)
	}
	list := []state{{}, full, rising}
	for i := range 25 {
		var low, high, lone, gap state
		low[i], high[i], lone[i] = 1, 1<<63, most
		gap = full
		gap[i] = 0
		list = append(list, low, high, lone, gap)
	}
	next := source()
	for range 200 {
		var a state
		for i := range a {
			a[i] = next()
		}
		list = append(list, a)
	}
	return list
}

// sizes are those at the edges of blocks, and some between.
func sizes() []int {
	list := []int{543, 544, 545, 1000, 1359, 1360, 1361, 5000}
	for size := range 2*136 + 20 {
		list = append(list, size)
	}
	return list
}

// equal holds a sum against the one that is wanted.
func equal(t *testing.T, got, want, call string) {
	t.Helper()
	if got != want {
		t.Fatalf("%s = %x, not %x", call, got, want)
	}
}

// TestMix is for P3.1: what the chapter's steps make of states.
func TestMix(t *testing.T) {
	for _, a := range states() {
		if got, want := keccak.Mix(a), mixed(a); got != want {
			t.Fatalf("Mix(%x) = %x, not %x", a, got, want)
		}
	}
}

// TestMixZero is for P3.1: the zero state mixed once and twice, as it is known.
func TestMixZero(t *testing.T) {
	once := state{
		0xF1258F7940E1DDE7, 0x84D5CCF933C0478A, 0xD598261EA65AA9EE, 0xBD1547306F80494D, 0x8B284E056253D057,
		0xFF97A42D7F8E6FD4, 0x90FEE5A0A44647C4, 0x8C5BDA0CD6192E76, 0xAD30A6F71B19059C, 0x30935AB7D08FFC64,
		0xEB5AA93F2317D635, 0xA9A6E6260D712103, 0x81A57C16DBCF555F, 0x43B831CD0347C826, 0x01F22F1A11A5569F,
		0x05E5635A21D9AE61, 0x64BEFEF28CC970F2, 0x613670957BC46611, 0xB87C5A554FD00ECB, 0x8C3EE88A1CCF32C8,
		0x940C7922AE3A2614, 0x1841F924A2C509E4, 0x16F53526E70465C2, 0x75F644E97F30A13B, 0xEAF1FF7B5CECA249,
	}
	twice := state{
		0x2D5C954DF96ECB3C, 0x6A332CD07057B56D, 0x093D8D1270D76B6C, 0x8A20D9B25569D094, 0x4F9C4F99E5E7F156,
		0xF957B9A2DA65FB38, 0x85773DAE1275AF0D, 0xFAF4F247C3D810F7, 0x1F1B9EE6F79A8759, 0xE4FECC0FEE98B425,
		0x68CE61B6B9CE68A1, 0xDEEA66C4BA8F974F, 0x33C43D836EAFB1F5, 0xE00654042719DBD9, 0x7CF8A9F009831265,
		0xFD5449A6BF174743, 0x97DDAD33D8994B40, 0x48EAD5FC5D0BE774, 0xE3B8C8EE55B7B03C, 0x91A0226E649E42E9,
		0x900E3129E7BADD7B, 0x202A9EC5FAA3CCE8, 0x5B3402464E1C3DB6, 0x609F4E62A44C1059, 0x20D06CD26A8FBF5C,
	}
	if got := keccak.Mix(state{}); got != once {
		t.Errorf("Mix of the zero state = %x", got)
	}
	if got := keccak.Mix(once); got != twice {
		t.Errorf("Mix of that = %x", got)
	}
}

// TestMixElsewhere is for P3.1: other sums, which the library has, are made by
// the same mixing, with other blocks and other bytes behind the text.
func TestMixElsewhere(t *testing.T) {
	for _, size := range sizes() {
		whole := text(size)
		wide := sha3.Sum256([]byte(whole))
		got := shown(absorbed(filled(whole, 136, 0x06), 136, keccak.Mix), 32)
		equal(t, got, string(wide[:]), "a sum of 256 bits")
		narrow := sha3.Sum512([]byte(whole))
		got = shown(absorbed(filled(whole, 72, 0x06), 72, keccak.Mix), 64)
		equal(t, got, string(narrow[:]), "a sum of 512 bits")
		long := sha3.SumSHAKE128([]byte(whole), 168)
		got = shown(absorbed(filled(whole, 168, 0x1F), 168, keccak.Mix), 168)
		equal(t, got, string(long), "a sum of 168 bytes")
	}
}

// TestSum is for P3.1: the chapter's examples, what later chapters tell of
// sums, and sums that others made, of whole blocks, a byte less and one more.
func TestSum(t *testing.T) {
	base := "79be667ef9dcbbac55a06295ce870b07029bfcdb2dce28d959f2815b16f81798" +
		"483ada7726a3c4655da4fbfc0e1108a8fd17b448a68554199c47d08ffb10d4b8"
	point, _ := hex.DecodeString(base)
	cases := []struct{ text, want string }{
		{"", "c5d2460186f7233c927e7db2dcc703c0e500b653ca82273b7bfad8045d85a470"},
		{"abc", "4e03657aea45a94fc7d47ba826c8d667c0d1e6e33a64a036ec44f58fa12d6c45"},
		{"\x00", "bc36789e7a1e281436464229828f817d6612f7b477d66591ff96a9e064bcc98a"},
		{"\x01", "5fe7f977e71dba2ea1a68e21057beebb9be2ac30c6410aa38d4f3fbe41dcffd2"},
		{"\x80", "56e81f171bcc55a6ff8345e692c0f86e5b48e01b996cadc001622fb5e363b421"},
		{"The quick brown fox jumps over the lazy dog", "4d741b6f1eb29cb2a9b9911c82f56fa8d73b04959d3d9d222895df6c0b28aa15"},
		{"The quick brown fox jumps over the lazy dog.", "578951e24efd62a3d63a86f7cd19aaa53c898fe287d2552133220370240b572d"},
		{strings.Repeat("a", 134), "e5de5653994e2fa6729d329b65b5f332dee942a7ea54515e173824c232a4ff91"},
		{strings.Repeat("a", 135), "34367dc248bbd832f4e3e69dfaac2f92638bd0bbd18f2912ba4ef454919cf446"},
		{strings.Repeat("a", 136), "a6c4d403279fe3e0af03729caada8374b5ca54d8065329a3ebcaeb4b60aa386e"},
		{strings.Repeat("a", 137), "d869f639c7046b4929fc92a4d988a8b22c55fbadb802c0c66ebcd484f1915f39"},
		{strings.Repeat("a", 271), "132f47effd6c8b1b299efa53fe68aece77ec8ae4eb2e294f668eec94f76001e1"},
		{strings.Repeat("a", 272), "cf7fcd4f705ee749930d19ca84561a9bf62516bd90a471545fa2f49fdc7e63c8"},
		{strings.Repeat("a", 273), "5a7b8187d2778e614097fac3097573de1fee4d972304d3360796a857029bb176"},
		{strings.Repeat("\xff", 136), "2d417340362cd4144efbf52adc1bfb7a4b40254f55f3b0f09efa6a1ef299b51a"},
		{strings.Repeat("a", 1000000), "fadae6b49f129bbb812be8407b7b2894f34aecf6dbd1f9b0f0c7e9853098fc96"},
	}
	for _, c := range cases {
		want, _ := hex.DecodeString(c.want)
		equal(t, keccak.Sum(c.text), string(want), "Sum of "+strconv.Quote(c.text[:min(len(c.text), 50)]))
	}
	address, _ := hex.DecodeString("7e5f4552091a69125d5dfcb7b8c2659029395bdf")
	equal(t, keccak.Sum(string(point))[12:], string(address), "the end of the sum of the curve's base")
}

// TestSumSizes is for P3.1: texts of all lengths, with all kinds of bytes.
func TestSumSizes(t *testing.T) {
	for _, size := range sizes() {
		for _, whole := range []string{
			text(size),
			strings.Repeat("\x00", size),
			strings.Repeat("\xff", size),
			strings.Repeat("\x01", size),
			strings.Repeat("\x80", size),
		} {
			equal(t, keccak.Sum(whole), summed(whole), "Sum of "+hex.EncodeToString([]byte(whole)))
		}
	}
}

// TestSumEnd is for P3.1: what stands behind a text never makes it another one.
func TestSumEnd(t *testing.T) {
	seen := map[string]int{}
	for size := range 3 * 136 {
		sum := keccak.Sum(strings.Repeat("\x00", size))
		if other, ok := seen[sum]; ok {
			t.Errorf("%d and %d zero bytes have one sum", other, size)
		}
		seen[sum] = size
	}
	for size := range 2 * 136 {
		whole := strings.Repeat("a", size)
		behind := string(filled(whole, 136, 0x01))
		if keccak.Sum(whole) == keccak.Sum(behind) {
			t.Errorf("%d bytes have the sum of them with what stands behind", size)
		}
	}
}

// TestOf is for P3.1: no parts, empty ones, and which one comes first.
func TestOf(t *testing.T) {
	empty, abc := keccak.Sum(""), keccak.Sum("abc")
	var none []string
	equal(t, keccak.Of(), empty, "Of()")
	equal(t, keccak.Of(none...), empty, "Of(nil)")
	equal(t, keccak.Of([]string{}...), empty, "Of of an empty list")
	equal(t, keccak.Of(""), empty, "Of of an empty text")
	equal(t, keccak.Of("", "", ""), empty, "Of of empty texts")
	equal(t, keccak.Of(make([]string, 1000)...), empty, "Of of many empty texts")
	equal(t, keccak.Of("abc"), abc, "Of(abc)")
	equal(t, keccak.Of("a", "", "bc"), abc, "Of(a, , bc)")
	equal(t, keccak.Of("", "abc"), abc, "Of(, abc)")
	equal(t, keccak.Of("abc", ""), abc, "Of(abc, )")
	equal(t, keccak.Of("a", "b", "c"), abc, "Of(a, b, c)")
	equal(t, keccak.Of("c", "b", "a"), keccak.Sum("cba"), "Of(c, b, a)")
	if keccak.Of("c", "b", "a") == abc {
		t.Error("the order of parts is not told")
	}
}

// TestOfParts is for P3.1: where a text is parted does not matter.
func TestOfParts(t *testing.T) {
	for _, size := range []int{1, 135, 136, 137, 272, 300} {
		whole := text(size)
		want := summed(whole)
		for i := range size + 1 {
			equal(t, keccak.Of(whole[:i], whole[i:]), want, "Of two parts")
			half := i / 2
			equal(t, keccak.Of(whole[:half], whole[half:i], "", whole[i:]), want, "Of four parts")
		}
		for _, step := range []int{1, 7, 8, 64, 135, 136, 137} {
			var parts []string
			for i := 0; i < size; i += step {
				parts = append(parts, whole[i:min(i+step, size)])
			}
			before := slices.Clone(parts)
			equal(t, keccak.Of(parts...), want, "Of many parts")
			if !slices.Equal(parts, before) {
				t.Error("Of has changed its parts")
			}
		}
	}
}

// TestOfMany is for P3.1: a million bytes, as one text that comes many times.
func TestOfMany(t *testing.T) {
	want := keccak.Sum(strings.Repeat("a", 1000000))
	for _, size := range []int{1, 100, 125, 1000, 100000} {
		parts := slices.Repeat([]string{strings.Repeat("a", size)}, 1000000/size)
		equal(t, keccak.Of(parts...), want, "Of one text many times")
	}
}

// TestAlone is for P3.1: a call hangs on no call that was ahead of it.
func TestAlone(t *testing.T) {
	a := states()[5]
	want, sum := keccak.Mix(a), keccak.Sum("abc")
	keccak.Of("other", text(500))
	keccak.Mix(want)
	if keccak.Mix(a) != want || keccak.Sum("abc") != sum {
		t.Error("a second call answers another thing")
	}
}

// TestSize is for P3.2: a sum has 32 bytes.
func TestSize(t *testing.T) {
	for _, size := range sizes() {
		whole := text(size)
		for _, sum := range []string{keccak.Sum(whole), keccak.Of(whole, whole), keccak.Of()} {
			if len(sum) != 32 {
				t.Errorf("a sum of %d bytes", len(sum))
			}
		}
	}
}

// TestUndone is for P3.2: from a mixed state the way back leads to the one that
// was mixed, so that no two are mixed alike.
func TestUndone(t *testing.T) {
	for _, a := range states() {
		if back := unmixed(keccak.Mix(a)); back != a {
			t.Fatalf("%x is mixed to what %x is mixed to", a, back)
		}
		if again := keccak.Mix(unmixed(a)); again != a {
			t.Fatalf("what should be mixed to %x is mixed to %x", a, again)
		}
	}
}

// TestUnlike is for P3.2: states that are one bit away are mixed to unlike ones.
func TestUnlike(t *testing.T) {
	for _, a := range states()[:3] {
		seen := map[state]bool{keccak.Mix(a): true}
		for bit := range 25 * 64 {
			b := a
			b[bit/64] ^= 1 << (bit % 64)
			mixed := keccak.Mix(b)
			if seen[mixed] {
				t.Errorf("%x is mixed as another one is", b)
			}
			seen[mixed] = true
		}
	}
}

func BenchmarkMix(b *testing.B) {
	var a state
	for b.Loop() {
		a = keccak.Mix(a)
	}
}

func BenchmarkSum(b *testing.B) {
	whole := strings.Repeat("a", 100)
	for b.Loop() {
		keccak.Sum(whole)
	}
}
