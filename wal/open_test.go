package wal_test

import (
	"math"
	"math/rand/v2"
	"slices"
	"testing"

	"ecclesia/api"
	"ecclesia/device"
	"ecclesia/wal"
)

// opened holds Open against what is wanted.
func opened(t *testing.T, d api.Device, want api.Log, errno api.Errno) {
	t.Helper()
	got, e := wal.Open(d)
	same(t, "Open", api.Log{Device: d}, got, e, want, errno)
}

// openedPlainly holds Open against what the chapter says, and answers that.
func openedPlainly(t *testing.T, d api.Device) api.Log {
	t.Helper()
	want, errno := plainOpen(d)
	opened(t, d, want, errno)
	return want
}

// whole is a log of these records, all of it sure.
func whole(records ...string) api.Log { return of(len(plainFrames(records...)), records...) }

// crashed is what a crash leaves of a log's device.
func crashed(t *testing.T, l api.Log, more int) api.Device {
	t.Helper()
	d, e := device.Crash(l.Device, more)
	if e != api.OK {
		t.Fatalf("Crash of %s answers %d", shown(l), e)
	}
	return d
}

// TestExample is for P13.3: the chapter's example, and what is left if the crash
// leaves more.
func TestExample(t *testing.T) {
	l, _ := wal.Append(wal.New(), "a")
	l, e := wal.Begin(l, "b")
	if e != api.OK {
		t.Fatal(e)
	}
	opened(t, crashed(t, l, 3), whole("a"), api.OK)
	opened(t, crashed(t, l, 6), whole("a"), api.OK)
	opened(t, crashed(t, l, 7), whole("a", "b"), api.OK)
	opened(t, crashed(t, l, -1), whole("a"), api.OK)
	opened(t, l.Device, whole("a", "b"), api.OK)
}

// TestOpenTold is for P13.3: answers that are written out.
func TestOpenTold(t *testing.T) {
	a, b := "\x01\x00\x61\xeb\xe2\x36\xc4", "\x01\x00\x62\x51\xb3\x3f\x5d"
	one := api.Log{Device: api.Device{Bytes: a, Sure: 7}, Records: []string{"a"}}
	two := api.Log{Device: api.Device{Bytes: a + b, Sure: 14}, Records: []string{"a", "b"}}
	opened(t, api.Device{}, api.Log{}, api.OK)
	opened(t, api.Device{Bytes: "junk"}, api.Log{}, api.OK)
	opened(t, api.Device{Bytes: "junk", Sure: 4}, api.Log{}, api.OK)
	opened(t, api.Device{Bytes: "\x00\x00\xff\x12\xd9\x41"}, api.Log{}, api.OK)
	opened(t, api.Device{Bytes: a}, one, api.OK)
	opened(t, api.Device{Bytes: a, Sure: 7}, one, api.OK)
	opened(t, api.Device{Bytes: a + "junk", Sure: 9}, one, api.OK)
	opened(t, api.Device{Bytes: a + b, Sure: 3}, two, api.OK)
	opened(t, api.Device{Bytes: a + b + b[:6], Sure: 20}, two, api.OK)
	opened(t, api.Device{Bytes: a + "\x00" + b, Sure: 15}, one, api.OK)
	opened(t, api.Device{Bytes: "\x00" + a + b}, api.Log{}, api.OK)
}

// TestOpenAll is for P13.3: each beginning of a device's bytes, with bytes behind
// it, and any of them sure.
func TestOpenAll(t *testing.T) {
	for _, records := range few() {
		frames := plainFrames(records...)
		step := 1 + len(frames)/2000
		for at := 0; at <= len(frames); at += step {
			for _, behind := range []string{"", "\x00", "\xff\xff", "a", plainFrame("a"), plainFrame(""), plainFrame(text(4001))} {
				d := api.Device{Bytes: frames[:at] + behind}
				for _, d.Sure = range []int{0, at, len(d.Bytes)} {
					openedPlainly(t, d)
				}
			}
		}
		opened(t, api.Device{Bytes: frames}, whole(records...), api.OK)
	}
}

// TestOpenTurned is for P13.3: where one bit is turned, the records ahead of its
// frame are left, and none behind it.
func TestOpenTurned(t *testing.T) {
	for _, records := range few()[2:8] {
		frames, ahead := plainFrames(records...), 0
		for at := range len(frames) {
			if at == len(plainFrames(records[:ahead+1]...)) {
				ahead++
			}
			for bit := range 8 {
				made := []byte(frames)
				made[at] ^= 1 << bit
				opened(t, api.Device{Bytes: string(made)}, whole(records[:ahead]...), api.OK)
			}
		}
	}
}

// TestOpenLong is for P13.3: devices of all sizes, up to the most bytes.
func TestOpenLong(t *testing.T) {
	for _, size := range []int{8, 100, 4005, 4006, 4007, 4013, 65536, most - 1, most} {
		l := full(size)
		opened(t, l.Device, l, api.OK)
		opened(t, api.Device{Bytes: l.Bytes}, l, api.OK)
		last := len(l.Records) - 1
		opened(t, api.Device{Bytes: l.Bytes[:size-1]}, whole(l.Records[:last]...), api.OK)
	}
	many := slices.Repeat([]string{"a"}, most/7)
	opened(t, of(5, many...).Device, whole(many...), api.OK)
	opened(t, api.Device{Bytes: text(most), Sure: most}, api.Log{}, api.OK)
}

// TestOpenWrong is for P13.3: a device that may not be.
func TestOpenWrong(t *testing.T) {
	for _, records := range few() {
		frames := plainFrames(records...)
		size := len(frames)
		for _, sure := range []int{math.MinInt, math.MinInt + size, -size - 1, -2, -1, size + 1, size + 2, 1<<32 + size, math.MaxInt} {
			opened(t, api.Device{Bytes: frames, Sure: sure}, api.Log{}, api.ErrArg)
		}
	}
	for _, size := range []int{most + 1, most + 7, 1 << 20} {
		opened(t, full(size).Device, api.Log{}, api.ErrArg)
		opened(t, api.Device{Bytes: full(size).Bytes}, api.Log{}, api.ErrArg)
		opened(t, api.Device{Bytes: text(size)}, api.Log{}, api.ErrArg)
	}
}

// TestCrash is for P13.4: behind any crash, what was sure is there, and of what
// was begun behind it, in order, all of which the frames are whole; it can be gone
// on with, and crash again.
func TestCrash(t *testing.T) {
	sure, begun := []string{"a", text(300), plainFrame("b")}, []string{"c", plainFrames("d", "e"), "\x00", text(40)}
	l := wal.New()
	for _, record := range sure {
		l, _ = wal.Append(l, record)
	}
	for _, record := range begun {
		l, _ = wal.Begin(l, record)
	}
	all := append(slices.Clone(sure), begun...)
	if !alike(l, of(len(plainFrames(sure...)), all...)) {
		t.Fatalf("the log is %s", shown(l))
	}
	left := len(sure)
	for more := -3; more <= len(plainFrames(begun...))+3; more++ {
		for left < len(all) && len(plainFrames(all[len(sure):left+1]...)) <= more {
			left++
		}
		d := crashed(t, l, more)
		opened(t, d, whole(all[:left]...), api.OK)
		again, _ := wal.Open(d)
		appended(t, again, "on", whole(append(slices.Clone(all[:left]), "on")...), api.OK)
		next, _ := wal.Begin(again, "on")
		opened(t, crashed(t, next, 7), again, api.OK)
		opened(t, crashed(t, next, 8), whole(append(slices.Clone(all[:left]), "on")...), api.OK)
	}
	if left != len(all) {
		t.Errorf("%d records are left at last", left)
	}
}

// TestPlays is for P13.1 to P13.4: logs that grow, crash and are opened, over and
// over; records that are sure stay, and what is left is a beginning of what was.
func TestPlays(t *testing.T) {
	source := rand.New(rand.NewPCG(13, 4))
	for range 300 {
		l, sure := wal.New(), 0
		for range 40 {
			l, sure = played(t, source, l, sure)
			plainly(t, l, "a")
		}
	}
}

// played is what some call makes of a log, and of how many records are sure.
func played(t *testing.T, source *rand.Rand, l api.Log, sure int) (api.Log, int) {
	t.Helper()
	record := text(source.IntN(60))
	var next, want api.Log
	var e, errno api.Errno
	switch source.IntN(5) {
	case 0:
		next, e = wal.Append(l, record)
		want, errno = plainAppend(l, record)
	case 1:
		d := crashed(t, l, source.IntN(len(l.Bytes)-l.Sure+10)-5)
		next, e = wal.Open(d)
		want, errno = plainOpen(d)
		if left := len(next.Records); left < sure || !slices.Equal(next.Records, l.Records[:left]) {
			t.Fatalf("%s is left of %s, where %d records are sure", shown(next), shown(l), sure)
		}
	default:
		next, e = wal.Begin(l, record)
		want, errno = plainBegin(l, record)
	}
	same(t, "a call", l, next, e, want, errno)
	if e != api.OK {
		return l, sure
	}
	if next.Sure == len(next.Bytes) {
		sure = len(next.Records)
	}
	return next, sure
}

// TestOpenAlone is for P13.3: what is answered is its own, at each call.
func TestOpenAlone(t *testing.T) {
	d := of(0, "a", "b").Device
	one, _ := wal.Open(d)
	one.Records[0] = "changed"
	opened(t, d, whole("a", "b"), api.OK)
	other, _ := wal.Open(d)
	longer, _ := wal.Begin(other, "c")
	another, _ := wal.Begin(other, "d")
	longer.Records[1] = "changed"
	if !alike(other, whole("a", "b")) || !alike(another, of(14, "a", "b", "d")) {
		t.Errorf("%s, and %s", shown(other), shown(another))
	}
}

// FuzzOpen is for P13.1 to P13.4: any device, and any record behind what it is
// opened as; and a log of that device whose records are told.
func FuzzOpen(f *testing.F) {
	f.Add(plainFrames("a", "b"), 7, "c", 3)
	f.Add(plainFrames("a", "bc")+"junk", 7, "", 8)
	f.Add("", 0, "c", -1)
	f.Add("a", 2, "c", 1)
	f.Fuzz(func(t *testing.T, bytes string, sure int, record string, more int) {
		d := api.Device{Bytes: bytes, Sure: sure}
		l := openedPlainly(t, d)
		plainly(t, l, record)
		plainly(t, api.Log{Device: d, Records: l.Records}, record)
		plainly(t, api.Log{Device: d, Records: []string{record}}, record)
		if next, e := wal.Begin(l, record); e == api.OK {
			openedPlainly(t, crashed(t, next, more))
		}
	})
}

func BenchmarkOpen(b *testing.B) {
	d := full(most).Device
	for b.Loop() {
		wal.Open(d)
	}
}
