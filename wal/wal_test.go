package wal_test

import (
	"fmt"
	"math"
	"math/rand/v2"
	"slices"
	"strings"
	"testing"

	"ecclesia/api"
	"ecclesia/wal"
)

// text is bytes of all kinds, the same ones at each run.
func text(size int) string {
	made := make([]byte, size)
	rand.NewChaCha8([32]byte{13}).Read(made)
	return string(made)
}

// of is a log of these records, of whose bytes so many are sure.
func of(sure int, records ...string) api.Log {
	return api.Log{Device: api.Device{Bytes: plainFrames(records...), Sure: sure}, Records: records}
}

// full is a log of so many bytes, 8 or more, of records of all lengths up to the
// most.
func full(size int) api.Log {
	var records []string
	for left := size; left > 0; {
		next := min(left, 4006)
		if behind := left - next; behind > 0 && behind < 7 {
			next -= 7
		}
		records = append(records, text(next-6))
		left -= next
	}
	return of(size, records...)
}

// few are lists of records: none, one, and many, such that are alike, and such
// that are frames themselves, or pieces of them.
func few() [][]string {
	return [][]string{
		nil,
		{},
		{"a"},
		{"a", "b"},
		{"a", "a", "a"},
		{"\x00", "\x01\x00", "\xff\xff"},
		{plainFrame("a"), "a", plainFrames("a", "b")[:9]},
		{text(300), "x", text(7), text(255), text(256)},
		{text(4000), text(1), text(3999)},
	}
}

// shown is a log as far as a message needs it.
func shown(l api.Log) string {
	return fmt.Sprintf("%d bytes %.20x, Sure %d, %d records %.40q", len(l.Bytes), l.Bytes, l.Sure, len(l.Records), l.Records)
}

// alike says if two logs are, be a list of no records nil or empty.
func alike(a, b api.Log) bool { return a.Device == b.Device && slices.Equal(a.Records, b.Records) }

// same holds what a call answers against what is wanted.
func same(t *testing.T, call string, l, got api.Log, e api.Errno, want api.Log, errno api.Errno) {
	t.Helper()
	if !alike(got, want) || e != errno {
		t.Fatalf("%s of %s answers %s, %d, not %s, %d", call, shown(l), shown(got), e, shown(want), errno)
	}
	if e == api.OK && !wal.Right(got) {
		t.Fatalf("%s of %s answers %s, which may not be", call, shown(l), shown(got))
	}
}

// right holds what Right says against what is wanted.
func right(t *testing.T, l api.Log, want bool) {
	t.Helper()
	if wal.Right(l) != want {
		t.Fatalf("Right of %s is not %t", shown(l), want)
	}
}

// begun holds Begin against what is wanted.
func begun(t *testing.T, l api.Log, record string, want api.Log, errno api.Errno) {
	t.Helper()
	got, e := wal.Begin(l, record)
	same(t, fmt.Sprintf("Begin, %d bytes %.12q,", len(record), record), l, got, e, want, errno)
}

// appended holds Append against what is wanted.
func appended(t *testing.T, l api.Log, record string, want api.Log, errno api.Errno) {
	t.Helper()
	got, e := wal.Append(l, record)
	same(t, fmt.Sprintf("Append, %d bytes %.12q,", len(record), record), l, got, e, want, errno)
}

// plainly holds Right, Begin and Append against what the chapter says.
func plainly(t *testing.T, l api.Log, records ...string) {
	t.Helper()
	right(t, l, plainRight(l))
	for _, record := range records {
		want, errno := plainBegin(l, record)
		begun(t, l, record, want, errno)
		want, errno = plainAppend(l, record)
		appended(t, l, record, want, errno)
	}
}

// refused holds that a log may not be, and that this tells ahead of all else.
func refused(t *testing.T, l api.Log) {
	t.Helper()
	right(t, l, false)
	for _, record := range []string{"", "a", text(4000), text(4001)} {
		begun(t, l, record, api.Log{}, api.ErrArg)
		appended(t, l, record, api.Log{}, api.ErrArg)
	}
}

// TestNew is for P13.1: a log of nothing, which may be and can be gone on with.
func TestNew(t *testing.T) {
	l := wal.New()
	if !alike(l, api.Log{}) {
		t.Fatalf("New is %s", shown(l))
	}
	right(t, l, true)
	plainly(t, l, "a", text(4000), "")
}

// TestTold is for P13.1 and P13.2: answers that are written out.
func TestTold(t *testing.T) {
	a, b := "\x01\x00\x61\xeb\xe2\x36\xc4", "\x01\x00\x62\x51\xb3\x3f\x5d"
	abc := "\x03\x00\x61\x62\x63\x1d\x15\xe7\x4b"
	none := api.Log{Records: []string{}}
	right(t, none, true)
	one := api.Log{Device: api.Device{Bytes: a}, Records: []string{"a"}}
	begun(t, none, "a", one, api.OK)
	one.Sure = 7
	appended(t, none, "a", one, api.OK)
	right(t, one, true)
	two := api.Log{Device: api.Device{Bytes: a + b, Sure: 7}, Records: []string{"a", "b"}}
	begun(t, one, "b", two, api.OK)
	right(t, two, true)
	three := api.Log{Device: api.Device{Bytes: a + b + abc, Sure: 7}, Records: []string{"a", "b", "abc"}}
	begun(t, two, "abc", three, api.OK)
	three.Sure = 23
	appended(t, two, "abc", three, api.OK)
	right(t, three, true)
	begun(t, two, "", api.Log{}, api.ErrArg)
	appended(t, two, "", api.Log{}, api.ErrArg)
	refused(t, api.Log{Records: []string{"x"}})
	refused(t, api.Log{Device: api.Device{Bytes: a}})
	refused(t, api.Log{Device: api.Device{Bytes: a + b}, Records: []string{"b", "a"}})
	refused(t, api.Log{Device: api.Device{Bytes: "\x00\x00\xff\x12\xd9\x41"}, Records: []string{""}})
}

// TestSure is for P13.1 and P13.2: however many bytes are sure, within a frame
// too, the log may be; Begin leaves them as they were, and Append makes all sure.
func TestSure(t *testing.T) {
	for _, records := range few()[:7] {
		size := len(plainFrames(records...))
		for sure := range size + 1 {
			l := of(sure, records...)
			right(t, l, true)
			want := of(sure, append(slices.Clone(records), "more")...)
			begun(t, l, "more", want, api.OK)
			want.Sure = size + 10
			appended(t, l, "more", want, api.OK)
		}
		for _, sure := range []int{math.MinInt, -size - 1, -size, -2, -1, size + 1, size + 2, most, 1 << 32, math.MaxInt} {
			if sure > size || sure < 0 {
				refused(t, of(sure, records...))
			}
		}
	}
}

// TestLengths is for P13.1 and P13.2: records of all lengths, and texts that are
// none; among these such as have a length of two bytes that is a record's.
func TestLengths(t *testing.T) {
	sizes := []int{0, 1, 2, 5, 6, 7, 255, 256, 257, 3999, 4000, 4001, 4002, 65535, 65536, 65537, 65536 + 4000, most - 6, most, most + 1}
	for _, size := range sizes {
		one := text(size)
		for _, records := range few() {
			l := of(0, records...)
			if size < 1 || size > 4000 {
				begun(t, l, one, api.Log{}, api.ErrArg)
				appended(t, l, one, api.Log{}, api.ErrArg)
			}
			plainly(t, l, one)
			more := of(0, append(slices.Clone(records), one)...)
			right(t, more, size >= 1 && size <= 4000)
		}
	}
}

// TestBytes is for P13.1 and P13.2: what a record's bytes are tells nothing.
func TestBytes(t *testing.T) {
	l := wal.New()
	for one := range 256 {
		record := string([]byte{byte(one)})
		plainly(t, l, record, strings.Repeat(record, 6))
		l, _ = wal.Begin(l, record)
	}
	if len(l.Records) != 256 || len(l.Bytes) != 256*7 || l.Sure != 0 {
		t.Errorf("256 records are %s", shown(l))
	}
}

// TestLong is for P13.2: 200000 bytes in all, and more; no record tells ahead of
// too many bytes.
func TestLong(t *testing.T) {
	for _, left := range []int{0, 1, 6, 7, 8, 9, 100, 4005, 4006, 4007, 5000} {
		l := full(most - left)
		for _, size := range []int{1, 2, 3, 94, 95, 3999, 4000} {
			record := text(size)
			errno := api.OK
			if size+6 > left {
				errno = api.ErrLong
				begun(t, l, record, api.Log{}, errno)
				appended(t, l, record, api.Log{}, errno)
			}
			if _, e := wal.Begin(l, record); e != errno {
				t.Fatalf("Begin of %d bytes, where %d are left, answers %d", size, left, e)
			}
			plainly(t, l, record)
		}
		for _, size := range []int{0, 4001, most + 1} {
			begun(t, l, text(size), api.Log{}, api.ErrArg)
			appended(t, l, text(size), api.Log{}, api.ErrArg)
		}
	}
	right(t, full(most), true)
	refused(t, full(most+1))
	refused(t, full(most+10000))
}

// TestMany is for P13.1 and P13.2: as many records as a device has room for.
func TestMany(t *testing.T) {
	l := of(0, slices.Repeat([]string{"a"}, most/7)...)
	right(t, l, true)
	begun(t, l, "a", api.Log{}, api.ErrLong)
	appended(t, l, "", api.Log{}, api.ErrArg)
	less := of(0, l.Records[1:]...)
	begun(t, less, "a", l, api.OK)
	refused(t, of(0, append(slices.Clone(l.Records), "a")...))
	refused(t, api.Log{Device: l.Device, Records: append(slices.Clone(l.Records), "a")})
	refused(t, api.Log{Device: l.Device, Records: less.Records})
}

// TestWrongBytes is for P13.1 and P13.2: bytes of which one is another, or is
// left out, or is too many, are not the records' frames.
func TestWrongBytes(t *testing.T) {
	for _, records := range few()[2:8] {
		l := of(0, records...)
		for at := range len(l.Bytes) + 1 {
			for _, one := range []string{"\x00", "\x01", "\xff", "a"} {
				refused(t, api.Log{Device: api.Device{Bytes: l.Bytes[:at] + one + l.Bytes[at:]}, Records: records})
			}
			if at == len(l.Bytes) {
				continue
			}
			refused(t, api.Log{Device: api.Device{Bytes: l.Bytes[:at]}, Records: records})
			refused(t, api.Log{Device: api.Device{Bytes: l.Bytes[:at] + l.Bytes[at+1:]}, Records: records})
			for bit := range 8 {
				made := []byte(l.Bytes)
				made[at] ^= 1 << bit
				refused(t, api.Log{Device: api.Device{Bytes: string(made)}, Records: records})
			}
		}
	}
}

// TestWrongRecords is for P13.1 and P13.2: records of which one is another, or is
// left out, or is too many, or stands elsewhere, have not these bytes.
func TestWrongRecords(t *testing.T) {
	for _, records := range few() {
		d := of(0, records...).Device
		for at := range len(records) + 1 {
			for _, one := range []string{"", "a", "q", text(4001)} {
				more := slices.Insert(slices.Clone(records), at, one)
				right(t, api.Log{Device: d, Records: more}, false)
			}
			if at == len(records) {
				continue
			}
			less := slices.Delete(slices.Clone(records), at, at+1)
			refused(t, api.Log{Device: d, Records: less})
			for _, one := range []string{"", "q", records[at][1:], records[at] + "a", records[at] + "\x00", text(4001)} {
				other := slices.Clone(records)
				other[at] = one
				refused(t, api.Log{Device: d, Records: other})
			}
			for other := range at {
				turned := slices.Clone(records)
				turned[at], turned[other] = turned[other], turned[at]
				right(t, api.Log{Device: d, Records: turned}, records[at] == records[other])
			}
		}
	}
	// One whole frame for two, and the same bytes as one record.
	refused(t, api.Log{Device: api.Device{Bytes: plainFrames("a", "b")}, Records: []string{plainFrames("a", "b")}})
	refused(t, api.Log{Device: api.Device{Bytes: plainFrames("a", "b")}, Records: []string{"ab"}})
}

// TestVast is for P13.1: records without end in a log of few bytes, or of too
// many, are no trouble.
func TestVast(t *testing.T) {
	vast := slices.Repeat([]string{text(1 << 20)}, 1<<16)
	refused(t, api.Log{Records: vast})
	refused(t, api.Log{Device: of(0, "a").Device, Records: append([]string{"a"}, vast...)})
	refused(t, api.Log{Device: api.Device{Bytes: strings.Repeat(plainFrame("a"), 1<<20)}, Records: slices.Repeat([]string{"a"}, 1<<20)})
}

// TestAlone is for P13.2: a call changes and keeps nothing that it was handed, and
// hangs on no call that was ahead of it; one log may go on in many ways.
func TestAlone(t *testing.T) {
	room := make([]string, 2, 10)
	copy(room, []string{"a", "b"})
	l := api.Log{Device: api.Device{Bytes: plainFrames("a", "b"), Sure: 3}, Records: room}
	one, _ := wal.Begin(l, "x")
	other, _ := wal.Append(l, "yz")
	wal.Begin(one, "q")
	wal.Append(one, "r")
	longer, _ := wal.Begin(one, "s")
	wal.Begin(l, text(4001))
	if !slices.Equal(room[:3], []string{"a", "b", ""}) {
		t.Errorf("the records handed in are %q", room[:3])
	}
	room[0] = "changed"
	longer.Records[1], longer.Records[2] = "b changed", "x changed"
	if !alike(one, of(3, "a", "b", "x")) {
		t.Errorf("the first is %s", shown(one))
	}
	if !alike(other, of(22, "a", "b", "yz")) {
		t.Errorf("the other is %s", shown(other))
	}
	right(t, l, false)
	room[0] = "a"
	right(t, l, true)
	begun(t, l, "x", one, api.OK)
}

func BenchmarkAppend(b *testing.B) {
	record := text(300)
	for b.Loop() {
		l := wal.New()
		for range 600 {
			l, _ = wal.Append(l, record)
		}
	}
}
