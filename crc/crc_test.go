package crc_test

import (
	"encoding/binary"
	"hash/crc32"
	"math/bits"
	"math/rand/v2"
	"slices"
	"strings"
	"testing"

	"ecclesia/api"
	"ecclesia/crc"
)

// text is bytes of all kinds, the same ones at each run.
func text(size int) string {
	made := make([]byte, size)
	rand.NewChaCha8([32]byte{5}).Read(made)
	return string(made)
}

// sizes are lengths of records: the edges, those between which a length needs
// a second byte, and some more.
func sizes() []int {
	return []int{1, 2, 3, 4, 5, 6, 7, 8, 9, 31, 32, 33, 127, 128, 254, 255, 256, 257, 511, 512, 1000, 2047, 2048, 3998, 3999, 4000}
}

// kinds are texts of one length.
func kinds(size int) []string {
	list := []string{text(size)}
	for _, one := range []string{"\x00", "\x01", "\x7f", "\x80", "\xff"} {
		list = append(list, strings.Repeat(one, size))
	}
	return list
}

// few are records of many lengths, one among them that is a frame itself.
func few() []string {
	return []string{"a", "bc", "\x00", strings.Repeat("\xff", 40), plainFrame("abc"), text(300), "\x01\x00", text(7)}
}

// framed is the frame that a record has.
func framed(t *testing.T, record string) string {
	t.Helper()
	frame, e := crc.Frame(record)
	if e != api.OK {
		t.Fatalf("Frame of %d bytes: %d", len(record), e)
	}
	return frame
}

// frames are those of records, one behind the other.
func frames(t *testing.T, records ...string) string {
	t.Helper()
	var all strings.Builder
	for _, record := range records {
		all.WriteString(framed(t, record))
	}
	return all.String()
}

// scanned holds what a text is scanned as against what is wanted.
func scanned(t *testing.T, whole string, want []string, bytes int) {
	t.Helper()
	got, n := crc.Scan(whole)
	if !slices.Equal(got, want) || n != bytes {
		t.Fatalf("Scan of %d bytes %.60x = %d records %.60q, %d, not %d records %.60q, %d",
			len(whole), whole, len(got), got, n, len(want), want, bytes)
	}
}

// turn is a text whose bits are turned from one on, where a pattern is one; a
// byte's lowest bit is its first.
func turn(whole string, from int, pattern uint32) string {
	made := []byte(whole)
	for ; pattern != 0; pattern &= pattern - 1 {
		at := from + bits.TrailingZeros32(pattern)
		made[at/8] ^= 1 << (at % 8)
	}
	return string(made)
}

// TestOf is for P5.1: the chapter's example, and sums that others made.
func TestOf(t *testing.T) {
	cases := []struct {
		text string
		want uint32
	}{
		{"123456789", 0xCBF43926},
		{"", 0},
		{"\x00", 0xD202EF8D},
		{"\xff", 0xFF000000},
		{"\xff\xff\xff\xff", 0xFFFFFFFF},
		{"a", 0xE8B7BE43},
		{"abc", 0x352441C2},
		{"message digest", 0x20159D7F},
		{"abcdefghijklmnopqrstuvwxyz", 0x4C2750BD},
		{"The quick brown fox jumps over the lazy dog", 0x414FA339},
		{strings.Repeat("\x00", 32), 0x190A55AD},
		{strings.Repeat("\xff", 32), 0xFF6CAB0B},
	}
	for _, c := range cases {
		if got := crc.Of(c.text); got != c.want {
			t.Errorf("Of(%q) = %08X, not %08X", c.text, got, c.want)
		}
	}
}

// TestOfSteps is for P5.1: what the chapter's steps make of a text, and what
// the library does; each pair of bytes is among the texts, so each entry of a
// table, behind each one.
func TestOfSteps(t *testing.T) {
	var list []string
	for first := range 256 {
		list = append(list, string([]byte{byte(first)}))
		for second := range 256 {
			list = append(list, string([]byte{byte(first), byte(second)}))
		}
	}
	for size := range 300 {
		list = append(list, kinds(size)...)
	}
	list = append(list, text(4000), text(65536), text(100001))
	for _, whole := range list {
		got := crc.Of(whole)
		if want := plainSum(whole); got != want {
			t.Fatalf("Of(%.60x) = %08X, not %08X", whole, got, want)
		}
		if want := crc32.ChecksumIEEE([]byte(whole)); got != want {
			t.Fatalf("Of(%.60x) = %08X, but %08X in the library", whole, got, want)
		}
	}
}

// TestOfZeros is for P5.1: how many zero bytes a text has tells.
func TestOfZeros(t *testing.T) {
	seen := map[uint32]int{}
	for size := range 1000 {
		sum := crc.Of(strings.Repeat("\x00", size))
		if other, ok := seen[sum]; ok {
			t.Errorf("%d and %d zero bytes have one sum", other, size)
		}
		seen[sum] = size
	}
}

// TestFrame is for P5.1: frames as they are written.
func TestFrame(t *testing.T) {
	cases := []struct{ record, want string }{
		{"abc", "\x03\x00abc\x1d\x15\xe7\x4b"},
		{"d", "\x01\x00d\x64\x16\x5c\xb4"},
		{"\x00", "\x01\x00\x00\x25\xb3\x83\xfe"},
		{strings.Repeat("\xff", 256), "\x00\x01" + strings.Repeat("\xff", 256) + "\xaa\xba\x2f\x51"},
		{strings.Repeat("z", 4000), "\xa0\x0f" + strings.Repeat("z", 4000) + "\x64\x6f\xae\xff"},
	}
	for _, c := range cases {
		if got, e := crc.Frame(c.record); got != c.want || e != api.OK {
			t.Errorf("Frame(%.20q) ends in %x, %d, not %x", c.record, got[max(0, len(got)-4):], e, c.want[len(c.want)-4:])
		}
	}
}

// TestFrameSizes is for P5.1: records of all lengths, with all kinds of bytes.
func TestFrameSizes(t *testing.T) {
	for size := 1; size <= 4000; size++ {
		record := text(size)
		want := summed(counted(record), crc32.ChecksumIEEE([]byte(counted(record))))
		if got, e := crc.Frame(record); got != want || e != api.OK {
			t.Fatalf("Frame of %d bytes is wrong, %d", size, e)
		}
	}
	for _, size := range sizes() {
		for _, record := range kinds(size) {
			if got, e := crc.Frame(record); got != plainFrame(record) || e != api.OK {
				t.Fatalf("Frame of %d bytes %.10x is wrong, %d", size, record, e)
			}
		}
	}
}

// TestFrameNone is for P5.1: what is no record, some of it of a length whose
// lowest two bytes are a record's.
func TestFrameNone(t *testing.T) {
	for _, size := range []int{0, 4001, 4002, 4095, 4096, 8000, 65535, 65536, 65537, 65536 + 100, 65536 + 4000, 1 << 20, 1<<20 + 1} {
		for _, whole := range kinds(size) {
			if got, e := crc.Frame(whole); got != "" || e != api.ErrArg {
				t.Errorf("Frame of %d bytes = %d bytes, %d", size, len(got), e)
			}
		}
	}
}

// TestScan is for P5.2: no frames, one, and many.
func TestScan(t *testing.T) {
	scanned(t, "", nil, 0)
	scanned(t, frames(t, "abc"), []string{"abc"}, 9)
	scanned(t, frames(t, "abc", "d"), []string{"abc", "d"}, 16)
	scanned(t, frames(t, "d", "d", "d"), []string{"d", "d", "d"}, 21)
	all := frames(t, few()...)
	scanned(t, all, few(), len(all))
	var records []string
	total := 0
	for _, size := range sizes() {
		for _, record := range kinds(size) {
			scanned(t, framed(t, record), []string{record}, 2+size+4)
			records = append(records, record)
			total += 2 + size + 4
		}
	}
	scanned(t, frames(t, records...), records, total)
}

// TestScanMany is for P5.2: a text of very many frames, as many as there are.
func TestScanMany(t *testing.T) {
	const many = 200000
	scanned(t, strings.Repeat(framed(t, "d"), many), slices.Repeat([]string{"d"}, many), 7*many)
	scanned(t, strings.Repeat(plainFrame(""), many), nil, 0)
}

// TestScanLength is for P5.2: texts whose length is no record's, with its sum.
func TestScanLength(t *testing.T) {
	one := framed(t, "abc")
	for _, size := range []int{0, 4001, 4002, 4095, 4096, 8000, 32768, 65535} {
		for _, whole := range kinds(size) {
			none := plainFrame(whole)
			scanned(t, none, nil, 0)
			scanned(t, none+one, nil, 0)
			scanned(t, one+none+one, []string{"abc"}, len(one))
		}
	}
	// A length of 65536 has zero bytes alone; it is not the one of no bytes.
	scanned(t, plainFrame(text(65536)), nil, 0)
	scanned(t, plainFrame(text(65537)), nil, 0)
}

// TestScanSum is for P5.2: a record with a sum that is not its frame's.
func TestScanSum(t *testing.T) {
	for _, record := range few() {
		one, sum := counted(record), crc32.ChecksumIEEE([]byte(counted(record)))
		table := crc32.MakeTable(crc32.Castagnoli)
		for _, other := range []uint32{
			0, 0xFFFFFFFF, ^sum, sum + 1, sum - 1, bits.ReverseBytes32(sum), bits.Reverse32(sum),
			crc32.ChecksumIEEE([]byte(record)), crc32.ChecksumIEEE([]byte(one[:2])),
			crc32.ChecksumIEEE([]byte(record + one[:2])), crc32.Checksum([]byte(one), table),
		} {
			if other == sum {
				t.Fatalf("a sum of %q is its frame's", record)
			}
			scanned(t, summed(one, other), nil, 0)
			scanned(t, framed(t, "abc")+summed(one, other)+framed(t, "d"), []string{"abc"}, 9)
		}
		scanned(t, summed(one, sum), []string{record}, len(one)+4)
	}
}

// TestScanOrder is for P5.2: a length of which the highest byte comes first,
// and a sum ahead of the record.
func TestScanOrder(t *testing.T) {
	for _, record := range []string{"a", "abc", text(200), text(258)} {
		high := string(binary.BigEndian.AppendUint16(nil, uint16(len(record)))) + record
		whole := summed(high, crc32.ChecksumIEEE([]byte(high)))
		want, n := plainScan(whole)
		scanned(t, whole, want, n)
		frame := framed(t, record)
		end := len(frame) - 4
		scanned(t, frame[end:]+frame[:end], nil, 0)
		scanned(t, frame[:2]+frame[end:]+frame[2:end], nil, 0)
		scanned(t, frame[2:], nil, 0)
	}
}

// TestScanBehind is for P5.2: what stands behind frames, or ahead of them.
func TestScanBehind(t *testing.T) {
	all := frames(t, few()...)
	for _, size := range []int{1, 2, 3, 6, 7, 8, 100, 5000} {
		for _, other := range kinds(size) {
			scanned(t, other, nil, 0)
			scanned(t, all+other, few(), len(all))
			scanned(t, all+other+all, few(), len(all))
			scanned(t, other+all, nil, 0)
		}
	}
}

// TestScanPlain is for P5.2: what the chapter says of frames with a few bytes
// turned, taken out or laid between; and the bytes that are told are the frames
// of the records, in one writing alone.
func TestScanPlain(t *testing.T) {
	source := rand.New(rand.NewPCG(5, 2))
	all := frames(t, few()...)
	for range 3000 {
		made := []byte(all)
		for range source.IntN(3) {
			at := source.IntN(len(made))
			switch source.IntN(3) {
			case 0:
				made[at] ^= byte(1 << source.IntN(8))
			case 1:
				made = slices.Delete(made, at, at+1)
			default:
				made = slices.Insert(made, at, byte(source.IntN(256)))
			}
		}
		whole := string(made)
		want, n := plainScan(whole)
		scanned(t, whole, want, n)
		records, n := crc.Scan(whole)
		if frames(t, records...) != whole[:n] {
			t.Fatalf("Scan of %x tells other frames", whole)
		}
	}
}

// TestScanBeginnings is for P5.3: frames, and each beginning of one more.
func TestScanBeginnings(t *testing.T) {
	var ahead []string
	passed := ""
	for _, record := range append(few(), "last") {
		frame := framed(t, record)
		for end := range len(frame) {
			scanned(t, passed+frame[:end], ahead, len(passed))
		}
		ahead, passed = append(ahead, record), passed+frame
		scanned(t, passed, ahead, len(passed))
	}
	longest := framed(t, text(4000))
	for end := range len(longest) {
		scanned(t, longest[:end], nil, 0)
		if end%50 == 0 {
			scanned(t, passed+longest[:end], ahead, len(passed))
		}
	}
}

// TestTurned is for P5.3: bits that are turned, all that are one of up to ten
// bits that stand one behind the other, and some of up to 32; all others of the
// frames stay.
func TestTurned(t *testing.T) {
	source := rand.New(rand.NewPCG(5, 3))
	ahead, behind := framed(t, "abc"), framed(t, "d")
	for _, record := range []string{"a", "\x00", "\xff\xff", "abc", plainFrame("e"), text(20)} {
		frame := framed(t, record)
		for from := 16; from < 8*len(frame); from++ {
			room := min(32, 8*len(frame)-from)
			var patterns []uint32
			for pattern := uint32(1); pattern < 1<<min(10, room); pattern += 2 {
				patterns = append(patterns, pattern)
			}
			for range 100 {
				patterns = append(patterns, (source.Uint32()|1)<<(32-room)>>(32-room)|1)
			}
			patterns = append(patterns, 1<<room-1)
			for _, pattern := range patterns {
				bad := turn(frame, from, pattern)
				if list, n := crc.Scan(bad); len(list) != 0 || n != 0 {
					t.Fatalf("%x, from %x by turning %b from bit %d on, is a frame", bad, frame, pattern, from)
				}
			}
			scanned(t, ahead+turn(frame, from, patterns[0])+behind, []string{"abc"}, len(ahead))
		}
	}
}

// TestTurnedAll is for P5.3: no bits at all that are turned within 32 leave a
// frame. Sums of texts of one length go as their bits do, each one apart; so it
// is enough that no such bits take each other away, which is asked of each 32.
func TestTurnedAll(t *testing.T) {
	for _, size := range []int{1, 2, 3, 4, 100, 1000, 4000} {
		frame := framed(t, text(size))
		if told(frame) != 0 {
			t.Fatalf("the frame of %d bytes has another sum", size)
		}
		tells := make([]uint32, 8*len(frame))
		for at := range tells {
			tells[at] = told(turn(frame, at, 1))
		}
		apart(t, frame, tells)
		for from := 16; from+32 <= len(tells); from++ {
			if rank(tells[from:from+32]) != 32 {
				t.Fatalf("some bits from %d on leave a frame of %d bytes", from, size)
			}
		}
	}
}

// told has the bits in which a frame's sum and that of its other bytes are unlike.
func told(frame string) uint32 {
	end := len(frame) - 4
	return crc.Of(frame[:end]) ^ binary.LittleEndian.Uint32([]byte(frame[end:]))
}

// apart holds what bits that are turned together tell against what each one does.
func apart(t *testing.T, frame string, tells []uint32) {
	t.Helper()
	source := rand.New(rand.NewPCG(5, 4))
	for range 200 {
		from, pattern := source.IntN(len(tells)-31), source.Uint32()
		want := uint32(0)
		for at := range 32 {
			want ^= tells[from+at] * (pattern >> at & 1)
		}
		if got := told(turn(frame, from, pattern)); got != want {
			t.Fatalf("%b turned from bit %d on tells %08X, not %08X", pattern, from, got, want)
		}
	}
}

// rank is how many of the numbers no others of them make by turning bits.
func rank(list []uint32) int {
	var heads [32]uint32
	count := 0
	for _, n := range list {
		for n != 0 {
			head := bits.Len32(n) - 1
			if heads[head] == 0 {
				heads[head] = n
				count++
				break
			}
			n ^= heads[head]
		}
	}
	return count
}

// TestAlone is for P5.1 and P5.2: a call hangs on no call that was ahead of it,
// and what is answered is not what a later call changes.
func TestAlone(t *testing.T) {
	all := frames(t, few()...)
	first, _ := crc.Scan(all)
	sum, frame := crc.Of("abc"), framed(t, "abc")
	crc.Of(text(500))
	crc.Frame("")
	crc.Scan(text(500))
	second, _ := crc.Scan(all)
	second[0] = "other"
	if !slices.Equal(first, few()) || crc.Of("abc") != sum || framed(t, "abc") != frame {
		t.Error("a second call answers another thing")
	}
	scanned(t, all, few(), len(all))
}

func BenchmarkOf(b *testing.B) {
	record := text(300)
	for b.Loop() {
		crc.Of(record)
	}
}

func BenchmarkScan(b *testing.B) {
	frame, _ := crc.Frame(text(40))
	all := strings.Repeat(frame, 1000)
	for b.Loop() {
		crc.Scan(all)
	}
}
