package sha_test

import (
	"crypto/hmac"
	"crypto/sha256"
	"encoding"
	"encoding/binary"
	"encoding/hex"
	"math"
	"math/rand/v2"
	"slices"
	"strings"
	"testing"

	"ecclesia/api"
	"ecclesia/sha"
)

// text is bytes of all kinds, the same ones at each run.
func text(size int) string {
	made := make([]byte, size)
	rand.NewChaCha8([32]byte{1}).Read(made)
	return string(made)
}

// sizes are those at the edges of blocks, and some between.
func sizes() []int {
	list := []int{1000, 4031, 4032, 4095, 4096, 4097}
	for size := range 3*64 + 10 {
		list = append(list, size)
	}
	return list
}

// kinds are texts of one length.
func kinds(size int) []string {
	list := []string{text(size)}
	for _, one := range []string{"\x00", "\x01", "\x7f", "\x80", "\xff"} {
		list = append(list, strings.Repeat(one, size))
	}
	return list
}

// starts are eight words at the edges, and some between.
func starts() []words {
	var full, rising words
	for i := range full {
		full[i], rising[i] = math.MaxUint32, uint32(i)
	}
	list := []words{{}, full, rising, start()}
	for i := range full {
		var low, high, lone words
		low[i], high[i], lone[i] = 1, 1<<31, math.MaxUint32
		list = append(list, low, high, lone)
	}
	source := rand.New(rand.NewPCG(4, 1))
	for range 50 {
		var h words
		for i := range h {
			h[i] = source.Uint32()
		}
		list = append(list, h)
	}
	return list
}

// bytes are those that are written as a hexadecimal number.
func bytes(t *testing.T, number string) string {
	t.Helper()
	made, err := hex.DecodeString(number)
	if err != nil {
		t.Fatal(err)
	}
	return string(made)
}

// equal holds a sum against the one that is wanted.
func equal(t *testing.T, got, want, call string) {
	t.Helper()
	if got != want {
		t.Fatalf("%s = %x, not %x", call, got, want)
	}
}

// librarySum and libraryMac are the sums of another implementation.
func librarySum(whole string) string {
	sum := sha256.Sum256([]byte(whole))
	return string(sum[:])
}

func libraryMac(key, whole string) string {
	mac := hmac.New(sha256.New, []byte(key))
	mac.Write([]byte(whole))
	return string(mac.Sum(nil))
}

// libraryBlock is what eight words become in the library, which can go on from
// words that it has told; they stand in what it tells behind four bytes.
func libraryBlock(t *testing.T, h words, block string) words {
	t.Helper()
	under := sha256.New()
	told, err := under.(encoding.BinaryMarshaler).MarshalBinary()
	if err != nil {
		t.Fatal(err)
	}
	copy(told[4:], shown(h))
	if err := under.(encoding.BinaryUnmarshaler).UnmarshalBinary(told); err != nil {
		t.Fatal(err)
	}
	under.Write([]byte(block))
	told, err = under.(encoding.BinaryMarshaler).MarshalBinary()
	if err != nil {
		t.Fatal(err)
	}
	var made words
	for i := range made {
		made[i] = binary.BigEndian.Uint32(told[4+4*i:])
	}
	return made
}

// TestBlock is for P4.1: what the chapter's steps make of words, and what the
// library does.
func TestBlock(t *testing.T) {
	k := thirds()
	for _, h := range starts() {
		for _, block := range append(kinds(64), shown(h)+shown(h)) {
			before := h
			got, e := sha.Block(h, block)
			if want := became(h, block, k); got != want || e != api.OK {
				t.Fatalf("Block(%x, %x) = %x, %d, not %x", h, block, got, e, want)
			}
			if want := libraryBlock(t, h, block); got != want {
				t.Fatalf("Block(%x, %x) = %x, but %x in the library", h, block, got, want)
			}
			if h != before {
				t.Fatalf("Block has changed %x to %x", before, h)
			}
		}
	}
}

// TestBlockBytes is for P4.1: each byte of a block, and each word, tells.
func TestBlockBytes(t *testing.T) {
	k := thirds()
	seen := map[words]bool{}
	for i := range 64 {
		block := strings.Repeat("\x00", i) + "\x01" + strings.Repeat("\x00", 63-i)
		got, e := sha.Block(words{}, block)
		if want := became(words{}, block, k); got != want || e != api.OK || seen[got] {
			t.Errorf("Block of a byte 01 at %d = %x, %d, not %x", i, got, e, want)
		}
		seen[got] = true
	}
	for i := range 8 {
		h := words{}
		h[i] = 1
		got, e := sha.Block(h, strings.Repeat("\x00", 64))
		if e != api.OK || seen[got] {
			t.Errorf("Block of a word 1 at %d = %x, %d", i, got, e)
		}
		seen[got] = true
	}
}

// TestBlockForm is for P4.1: a block that has not 64 bytes.
func TestBlockForm(t *testing.T) {
	for _, size := range append(sizes(), 1<<16, 1<<16+64) {
		for _, h := range starts()[:4] {
			got, e := sha.Block(h, text(size))
			if size == 64 {
				if e != api.OK {
					t.Errorf("Block of 64 bytes: %d", e)
				}
				continue
			}
			if e != api.ErrForm || got != (words{}) {
				t.Errorf("Block of %d bytes = %x, %d", size, got, e)
			}
		}
	}
}

// TestBlocks is for P4.1: from H on, block by block, the words are the sum.
func TestBlocks(t *testing.T) {
	for _, size := range sizes() {
		whole := text(size)
		h, e := start(), api.OK
		for all := filled(whole); all != ""; all = all[64:] {
			if h, e = sha.Block(h, all[:64]); e != api.OK {
				t.Fatalf("Block of 64 bytes: %d", e)
			}
		}
		equal(t, sha.Sum(whole), shown(h), "Sum of a text")
	}
}

// TestSum is for P4.1: the chapter's example, and sums that others made.
func TestSum(t *testing.T) {
	cases := []struct{ text, want string }{
		{"abc", "ba7816bf8f01cfea414140de5dae2223b00361a396177a9cb410ff61f20015ad"},
		{"", "e3b0c44298fc1c149afbf4c8996fb92427ae41e4649b934ca495991b7852b855"},
		{"\xbd", "68325720aabd7c82f30f554b313d0570c95accbb7dc4b5aae11204c08ffe732b"},
		{"abcdbcdecdefdefgefghfghighijhijkijkljklmklmnlmnomnopnopq", "248d6a61d20638b8e5c026930c3e6039a33ce45964ff2167f6ecedd419db06c1"},
		{"abcdefghbcdefghicdefghijdefghijkefghijklfghijklmghijklmnhijklmnoijklmnopjklmnopqklmnopqrlmnopqrsmnopqrstnopqrstu", "cf5b16a778af8380036ce59e7b0492370b249b11e8f07a51afac45037afee9d1"},
		{strings.Repeat("\x00", 55), "02779466cdec163811d078815c633f21901413081449002f24aa3e80f0b88ef7"},
		{strings.Repeat("\x00", 56), "d4817aa5497628e7c77e6b606107042bbba3130888c5f47a375e6179be789fbb"},
		{strings.Repeat("\x00", 57), "65a16cb7861335d5ace3c60718b5052e44660726da4cd13bb745381b235a1785"},
		{strings.Repeat("\x00", 64), "f5a5fd42d16a20302798ef6ed309979b43003d2320d9f0e8ea9831a92759fb4b"},
		{strings.Repeat("\x00", 1000), "541b3e9daa09b20bf85fa273e5cbd3e80185aa4ec298e765db87742b70138a53"},
		{strings.Repeat("a", 1000000), "cdc76e5c9914fb9281a1c7e284d73e67f1809a48a497200e046d39ccc7112cd0"},
	}
	for _, c := range cases {
		equal(t, sha.Sum(c.text), bytes(t, c.want), "Sum of "+c.text[:min(len(c.text), 50)])
	}
}

// TestSumSizes is for P4.1: texts of all lengths, with all kinds of bytes.
func TestSumSizes(t *testing.T) {
	sum := plain()
	for _, size := range sizes() {
		for _, whole := range kinds(size) {
			got, call := sha.Sum(whole), "Sum of "+hex.EncodeToString([]byte(whole))
			equal(t, got, librarySum(whole), call)
			if size < 3*64 {
				equal(t, got, sum(whole), call)
			}
		}
	}
}

// TestSumEnd is for P4.1: what stands behind a text never makes it another one.
func TestSumEnd(t *testing.T) {
	seen := map[string]int{}
	for size := range 4 * 64 {
		whole := strings.Repeat("\x00", size)
		sum := sha.Sum(whole)
		if other, ok := seen[sum]; ok {
			t.Errorf("%d and %d zero bytes have one sum", other, size)
		}
		seen[sum] = size
		if sha.Sum(filled(whole)) == sum {
			t.Errorf("%d bytes have the sum of them with what stands behind", size)
		}
	}
}

// TestSumLong is for P4.1: how many bits a text has may need more bytes than
// two or three.
func TestSumLong(t *testing.T) {
	for _, size := range []int{1<<13 - 1, 1 << 13, 1 << 16, 1<<21 - 1, 1 << 21, 1<<21 + 1} {
		whole := strings.Repeat("a", size)
		equal(t, sha.Sum(whole), librarySum(whole), "Sum of a long text")
	}
}

// TestMacLong is for P4.1: it may need more bytes than four, too.
func TestMacLong(t *testing.T) {
	if testing.Short() {
		t.Skip("a text of 2^32 bits takes seconds")
	}
	parts := slices.Repeat([]string{text(1 << 20)}, 1<<9)
	mac := hmac.New(sha256.New, []byte("key"))
	for _, part := range parts {
		mac.Write([]byte(part))
	}
	equal(t, sha.Mac("key", parts...), string(mac.Sum(nil)), "Mac of a text of 2^32 bits")
}

// TestMac is for P4.1: the chapter's example, and sums with a key that others
// made (RFC 4231).
func TestMac(t *testing.T) {
	rising := "\x01\x02\x03\x04\x05\x06\x07\x08\x09\x0a\x0b\x0c\x0d\x0e\x0f\x10\x11\x12\x13\x14\x15\x16\x17\x18\x19"
	cases := []struct{ key, text, want string }{
		{strings.Repeat("\x0b", 20), "Hi There", "b0344c61d8db38535ca8afceaf0bf12b881dc200c9833da726e9376c2e32cff7"},
		{"Jefe", "what do ya want for nothing?", "5bdcc146bf60754e6a042426089575c75a003f089d2739839dec58b964ec3843"},
		{strings.Repeat("\xaa", 20), strings.Repeat("\xdd", 50), "773ea91e36800e46854db8ebd09181a72959098b3ef8c122d9635514ced565fe"},
		{rising, strings.Repeat("\xcd", 50), "82558a389a443c0ea4cc819899f2083a85f0faa3e578f8077a2e3ff46729665b"},
		{strings.Repeat("\xaa", 131), "Test Using Larger Than Block-Size Key - Hash Key First", "60e431591ee0b67f0d8a26aacbf5b77f8e0bc6213728c5140546040f0ee37f54"},
		{strings.Repeat("\xaa", 131), "This is a test using a larger than block-size key and a larger than block-size data. The key needs to be hashed before being used by the HMAC algorithm.", "9b09ffa71b942fcb27635fbcd5b0e944bfdc63644f0713938a7f51535c3a35e2"},
		{"", "", "b613679a0814d9ec772f95d778c35fc5ff1697c493715653c6c712144292c5ad"},
		{"key", "The quick brown fox jumps over the lazy dog", "f7bc83f430538424b13298e6aa6fb143ef4d59a14946175997479dbc2d1a3cd8"},
	}
	for _, c := range cases {
		equal(t, sha.Mac(c.key, c.text), bytes(t, c.want), "Mac of "+c.text)
	}
}

// TestMacSizes is for P4.1: keys and texts of all lengths.
func TestMacSizes(t *testing.T) {
	sum := plain()
	for _, size := range sizes() {
		for _, key := range kinds(size) {
			for _, whole := range []string{"", "abc", text(64), text(200), key} {
				equal(t, sha.Mac(key, whole), libraryMac(key, whole), "Mac of a key and a text")
			}
		}
		equal(t, sha.Mac("key", text(size)), libraryMac("key", text(size)), "Mac of a key and a text")
	}
	for _, size := range []int{0, 1, 32, 63, 64, 65, 128} {
		for _, key := range kinds(size) {
			equal(t, sha.Mac(key, text(100)), keyed(sum, key, text(100)), "Mac of a key and a text")
		}
	}
}

// TestMacParts is for P4.1: no parts, empty ones, and where a text is parted.
func TestMacParts(t *testing.T) {
	key := text(40)
	empty, abc := libraryMac(key, ""), libraryMac(key, "abc")
	var none []string
	equal(t, sha.Mac(key), empty, "Mac(key)")
	equal(t, sha.Mac(key, none...), empty, "Mac(key, nil)")
	equal(t, sha.Mac(key, []string{}...), empty, "Mac of an empty list")
	equal(t, sha.Mac(key, ""), empty, "Mac of an empty text")
	equal(t, sha.Mac(key, make([]string, 1000)...), empty, "Mac of many empty texts")
	equal(t, sha.Mac(key, "a", "", "bc"), abc, "Mac(key, a, , bc)")
	equal(t, sha.Mac(key, "", "abc", ""), abc, "Mac(key, , abc, )")
	equal(t, sha.Mac(key, "c", "b", "a"), libraryMac(key, "cba"), "Mac(key, c, b, a)")
	for _, size := range []int{1, 55, 56, 63, 64, 65, 128, 150} {
		whole := text(size)
		want := libraryMac(key, whole)
		for i := range size + 1 {
			half := i / 2
			equal(t, sha.Mac(key, whole[:i], whole[i:]), want, "Mac of two parts")
			equal(t, sha.Mac(key, whole[:half], whole[half:i], "", whole[i:]), want, "Mac of four parts")
		}
		parts := strings.Split(whole, "")
		before := slices.Clone(parts)
		equal(t, sha.Mac(key, parts...), want, "Mac of many parts")
		if !slices.Equal(parts, before) {
			t.Error("Mac has changed its parts")
		}
	}
}

// TestMacMany is for P4.1: a million bytes, as one text that comes many times.
func TestMacMany(t *testing.T) {
	want := libraryMac("key", strings.Repeat("a", 1000000))
	for _, size := range []int{1, 64, 100, 1000, 100000} {
		parts := slices.Repeat([]string{strings.Repeat("a", size)}, 1000000/size)
		equal(t, sha.Mac("key", parts...), want, "Mac of one text many times")
	}
}

// TestAlone is for P4.1: a call hangs on no call that was ahead of it.
func TestAlone(t *testing.T) {
	block := text(64)
	sum, mac := sha.Sum("abc"), sha.Mac("key", "abc")
	h, _ := sha.Block(words{}, block)
	sha.Sum(text(500))
	sha.Mac(text(70), text(500))
	again, e := sha.Block(words{}, block)
	if sha.Sum("abc") != sum || sha.Mac("key", "abc") != mac || again != h || e != api.OK {
		t.Error("a second call answers another thing")
	}
}

// TestSize is for P4.2: sums have 32 bytes.
func TestSize(t *testing.T) {
	for _, size := range sizes() {
		whole := text(size)
		for _, sum := range []string{sha.Sum(whole), sha.Mac(whole), sha.Mac("", whole), sha.Mac(whole, whole, whole)} {
			if len(sum) != 32 {
				t.Errorf("a sum of %d bytes", len(sum))
			}
		}
	}
}

// TestFilledKey is for P4.2: a zero byte behind a key of fewer than 64 bytes
// makes no other sum; behind a longer one, ahead of one, or another byte does.
func TestFilledKey(t *testing.T) {
	for size := range 3 * 64 {
		for _, key := range []string{text(size), strings.Repeat("\x00", size), strings.Repeat("\xff", size)} {
			sum := sha.Mac(key, "abc")
			if same := sha.Mac(key+"\x00", "abc") == sum; same != (size < 64) {
				t.Errorf("a zero byte behind a key of %d bytes: the same is %v", size, same)
			}
			if sha.Mac(key+"\x01", "abc") == sum {
				t.Errorf("a byte 01 behind a key of %d bytes makes the same", size)
			}
		}
		if key := "\x01" + text(size); sha.Mac("\x00"+key, "abc") == sha.Mac(key, "abc") {
			t.Errorf("a zero byte ahead of a key of %d bytes makes the same", size)
		}
		if size <= 64 {
			key := text(size)
			equal(t, sha.Mac(key+strings.Repeat("\x00", 64-size), "abc"), sha.Mac(key, "abc"), "Mac of a filled key")
		}
	}
}

// TestLongKey is for P4.1: a key of more than 64 bytes is its sum.
func TestLongKey(t *testing.T) {
	for size := 60; size < 200; size++ {
		key := text(size)
		if same := sha.Mac(sha.Sum(key), "abc") == sha.Mac(key, "abc"); same != (size > 64) {
			t.Errorf("a key of %d bytes and its sum: the same is %v", size, same)
		}
	}
}

func BenchmarkBlock(b *testing.B) {
	block := text(64)
	var h words
	for b.Loop() {
		h, _ = sha.Block(h, block)
	}
}

func BenchmarkMac(b *testing.B) {
	key, whole := text(32), text(97)
	for b.Loop() {
		sha.Mac(key, whole)
	}
}
