package device_test

import (
	"fmt"
	"math"
	"math/rand/v2"
	"slices"
	"strings"
	"testing"

	"ecclesia/api"
	"ecclesia/device"
)

// most is how many bytes a device has at most.
const most = 200000

// text is bytes of all kinds, the same ones at each run.
func text(size int) string {
	made := make([]byte, size)
	rand.NewChaCha8([32]byte{12}).Read(made)
	return string(made)
}

// of is a device of so many bytes, of which so many are said to be sure.
func of(size, sure int) api.Device { return api.Device{Bytes: text(size), Sure: sure} }

// sizes are how many bytes a device has: the edges, and some more.
func sizes() []int {
	return []int{0, 1, 2, 3, 7, 8, 100, 255, 256, 4000, 65535, 65536, 100000, most - 2, most - 1, most}
}

// around are numbers at the edges of some sizes, of both signs, and of all ints.
func around(edges ...int) []int {
	list := []int{math.MinInt, math.MinInt + 1, math.MinInt32, math.MaxInt32, 1 << 32, 1<<32 + 1, math.MaxInt - 1, math.MaxInt}
	for _, edge := range edges {
		for near := -2; near <= 2; near++ {
			list = append(list, edge+near, -edge+near, math.MaxInt-edge+near, math.MinInt+edge+near)
		}
	}
	slices.Sort(list)
	return slices.Compact(list)
}

// shown is a device as far as a message needs it.
func shown(d api.Device) string {
	return fmt.Sprintf("%d bytes %.12q, Sure %d", len(d.Bytes), d.Bytes, d.Sure)
}

// same holds what a call answers against what is wanted.
func same(t *testing.T, call string, d, got api.Device, e api.Errno, want api.Device, errno api.Errno) {
	t.Helper()
	if got != want || e != errno {
		t.Fatalf("%s of %s answers %s, %d, not %s, %d", call, shown(d), shown(got), e, shown(want), errno)
	}
	if e == api.OK && !device.Right(got) {
		t.Fatalf("%s of %s answers %s, which may not be", call, shown(d), shown(got))
	}
}

// right holds what Right says against what is wanted.
func right(t *testing.T, d api.Device, want bool) {
	t.Helper()
	if device.Right(d) != want {
		t.Fatalf("Right of %s is not %t", shown(d), want)
	}
}

// appended holds Append against what is wanted.
func appended(t *testing.T, d api.Device, s string, want api.Device, errno api.Errno) {
	t.Helper()
	got, e := device.Append(d, s)
	same(t, fmt.Sprintf("Append, %d bytes %.12q,", len(s), s), d, got, e, want, errno)
}

// synced holds Sync against what is wanted.
func synced(t *testing.T, d, want api.Device, errno api.Errno) {
	t.Helper()
	got, e := device.Sync(d)
	same(t, "Sync", d, got, e, want, errno)
}

// crashed holds Crash against what is wanted.
func crashed(t *testing.T, d api.Device, more int, want api.Device, errno api.Errno) {
	t.Helper()
	got, e := device.Crash(d, more)
	same(t, fmt.Sprintf("Crash, %d,", more), d, got, e, want, errno)
}

// cut holds Cut against what is wanted.
func cut(t *testing.T, d api.Device, n int, want api.Device, errno api.Errno) {
	t.Helper()
	got, e := device.Cut(d, n)
	same(t, fmt.Sprintf("Cut, %d,", n), d, got, e, want, errno)
}

// plainly holds all calls but Append against what the chapter says.
func plainly(t *testing.T, d api.Device, numbers []int) {
	t.Helper()
	right(t, d, plainRight(d))
	want, errno := plainSync(d)
	synced(t, d, want, errno)
	for _, n := range numbers {
		want, errno = plainCrash(d, n)
		crashed(t, d, n, want, errno)
		want, errno = plainCut(d, n)
		cut(t, d, n, want, errno)
	}
}

// TestTold is for P12.1 and P12.2: answers that are written out.
func TestTold(t *testing.T) {
	d := api.Device{Bytes: "abcd", Sure: 2}
	right(t, d, true)
	right(t, api.Device{}, true)
	appended(t, d, "ef", api.Device{Bytes: "abcdef", Sure: 2}, api.OK)
	appended(t, d, "", d, api.OK)
	appended(t, api.Device{}, "a", api.Device{Bytes: "a"}, api.OK)
	appended(t, api.Device{}, "", api.Device{}, api.OK)
	synced(t, d, api.Device{Bytes: "abcd", Sure: 4}, api.OK)
	synced(t, api.Device{}, api.Device{}, api.OK)
	crashed(t, d, -1, api.Device{Bytes: "ab", Sure: 2}, api.OK)
	crashed(t, d, 0, api.Device{Bytes: "ab", Sure: 2}, api.OK)
	crashed(t, d, 1, api.Device{Bytes: "abc", Sure: 3}, api.OK)
	crashed(t, d, 2, api.Device{Bytes: "abcd", Sure: 4}, api.OK)
	crashed(t, d, 3, api.Device{Bytes: "abcd", Sure: 4}, api.OK)
	crashed(t, api.Device{Bytes: "abcd"}, 0, api.Device{}, api.OK)
	crashed(t, api.Device{}, 5, api.Device{}, api.OK)
	cut(t, d, -1, api.Device{}, api.ErrArg)
	cut(t, d, 0, api.Device{}, api.OK)
	cut(t, d, 1, api.Device{Bytes: "a", Sure: 1}, api.OK)
	cut(t, d, 2, api.Device{Bytes: "ab", Sure: 2}, api.OK)
	cut(t, d, 3, api.Device{Bytes: "abc", Sure: 2}, api.OK)
	cut(t, d, 4, d, api.OK)
	cut(t, d, 5, api.Device{}, api.ErrArg)
	cut(t, api.Device{}, 0, api.Device{}, api.OK)
}

// TestShort is for P12.1 and P12.2: all devices of a few bytes, with any number
// of them sure, and more, or fewer than none.
func TestShort(t *testing.T) {
	numbers := around(0, 3, 6)
	for size := range 7 {
		for sure := -3; sure <= size+3; sure++ {
			d := of(size, sure)
			plainly(t, d, numbers)
			for more := range 5 {
				want, errno := plainAppend(d, text(more))
				appended(t, d, text(more), want, errno)
			}
		}
	}
}

// TestRight is for P12.1: devices of all sizes, at the edges of how many of their
// bytes are sure.
func TestRight(t *testing.T) {
	for _, size := range append(sizes(), most+1, most+2, 2*most, 1<<18, 1<<20) {
		d := api.Device{Bytes: text(size)}
		for _, d.Sure = range around(0, 1, size, most) {
			right(t, d, size <= most && d.Sure >= 0 && d.Sure <= size)
			right(t, d, plainRight(d))
		}
	}
}

// TestBytes is for P12.1 and P12.2: what the bytes are tells nothing.
func TestBytes(t *testing.T) {
	for one := range 256 {
		all := strings.Repeat(string([]byte{byte(one)}), 5)
		d := api.Device{Bytes: all, Sure: 2}
		right(t, d, true)
		appended(t, d, all[:3], api.Device{Bytes: all + all[:3], Sure: 2}, api.OK)
		synced(t, d, api.Device{Bytes: all, Sure: 5}, api.OK)
		crashed(t, d, 1, api.Device{Bytes: all[:3], Sure: 3}, api.OK)
		cut(t, d, 4, api.Device{Bytes: all[:4], Sure: 2}, api.OK)
	}
}

// TestAppendLong is for P12.1: 200000 bytes in all, and more, however many of
// them come.
func TestAppendLong(t *testing.T) {
	for _, size := range sizes() {
		for _, sure := range []int{0, size / 2, size} {
			d := of(size, sure)
			for _, more := range []int{0, 1, 2, most - size - 1, most - size, most - size + 1, most - size + 2, most, most + 1, 1 << 20} {
				if more < 0 {
					continue
				}
				s := text(more)
				if size+more > most {
					appended(t, d, s, api.Device{}, api.ErrLong)
				} else {
					appended(t, d, s, api.Device{Bytes: d.Bytes + s, Sure: sure}, api.OK)
				}
			}
		}
	}
}

// TestLong is for P12.1 and P12.2: devices of all sizes, up to the most bytes.
func TestLong(t *testing.T) {
	for _, size := range sizes() {
		for _, sure := range []int{0, 1, size / 2, size - 1, size} {
			if 0 <= sure && sure <= size {
				plainly(t, of(size, sure), []int{math.MinInt, -1, 0, 1, size - sure - 1, size - sure, size - sure + 1, sure - 1, sure, sure + 1, size - 1, size, size + 1, most, most + 1, math.MaxInt - sure, math.MaxInt - sure + 1, math.MaxInt})
			}
		}
	}
}

// TestWrong is for P12.1 and P12.2: a device that may not be tells ahead of all
// else.
func TestWrong(t *testing.T) {
	var wrong []api.Device
	for _, size := range append(sizes(), most+1, 1<<20) {
		d := api.Device{Bytes: text(size)}
		for _, d.Sure = range around(0, 1, size, most) {
			if d.Sure < 0 || d.Sure > size || size > most {
				wrong = append(wrong, d)
			}
		}
	}
	for _, d := range wrong {
		right(t, d, false)
		synced(t, d, api.Device{}, api.ErrArg)
		for _, s := range []string{"", "a", text(most), text(most + 1)} {
			appended(t, d, s, api.Device{}, api.ErrArg)
		}
		for _, n := range around(0, 1, len(d.Bytes), d.Sure) {
			crashed(t, d, n, api.Device{}, api.ErrArg)
			cut(t, d, n, api.Device{}, api.ErrArg)
		}
	}
}

// TestCrashKeeps is for P12.3: what is sure is there behind any crash, and what is
// left is a beginning of what there was.
func TestCrashKeeps(t *testing.T) {
	for _, size := range []int{0, 1, 2, 9, 40, 300} {
		for sure := range size + 1 {
			d := of(size, sure)
			for _, more := range around(0, sure, size-sure, size) {
				left, e := device.Crash(d, more)
				if e != api.OK || !strings.HasPrefix(d.Bytes, left.Bytes) || !strings.HasPrefix(left.Bytes, d.Bytes[:sure]) {
					t.Fatalf("Crash, %d, of %s leaves %s, %d", more, shown(d), shown(left), e)
				}
				again, e := device.Crash(left, more)
				if again != left || e != api.OK {
					t.Fatalf("a second Crash, %d, leaves %s of %s, %d", more, shown(again), shown(left), e)
				}
			}
		}
	}
}

// TestGrown is for P12.1 to P12.3: devices that grow, are made sure, crash and are
// cut, over and over; what was sure stays, but for what is cut.
func TestGrown(t *testing.T) {
	source := rand.New(rand.NewPCG(12, 3))
	for range 300 {
		d, sure := api.Device{}, ""
		for range 60 {
			d, sure = grown(t, source, d, sure)
			if !strings.HasPrefix(d.Bytes, sure) || d.Sure != len(sure) {
				t.Fatalf("%s, where %d bytes %.12q are sure", shown(d), len(sure), sure)
			}
		}
	}
}

// grown is what some call makes of a device, and of its bytes that are sure.
func grown(t *testing.T, source *rand.Rand, d api.Device, sure string) (api.Device, string) {
	t.Helper()
	var next, want api.Device
	var e, errno api.Errno
	number := source.IntN(len(d.Bytes)+20) - 10
	switch source.IntN(6) {
	case 0:
		next, e = device.Sync(d)
		want, errno = plainSync(d)
		sure = d.Bytes
	case 1:
		next, e = device.Crash(d, number)
		want, errno = plainCrash(d, number)
		if !strings.HasPrefix(d.Bytes, next.Bytes) || !strings.HasPrefix(next.Bytes, sure) {
			t.Fatalf("%s is left of %s, where %.12q is sure", shown(next), shown(d), sure)
		}
		sure = next.Bytes
	case 2:
		next, e = device.Cut(d, number)
		want, errno = plainCut(d, number)
		if errno == api.OK {
			sure = sure[:min(len(sure), number)]
		}
	default:
		s := text(source.IntN(50))
		next, e = device.Append(d, s)
		want, errno = plainAppend(d, s)
	}
	same(t, "a call", d, next, e, want, errno)
	if errno != api.OK {
		return d, sure
	}
	return next, sure
}

// TestAlone is for P12.1 and P12.2: a call hangs on no call that was ahead of it,
// and one device may go on in many ways.
func TestAlone(t *testing.T) {
	d := api.Device{Bytes: "abcd", Sure: 2}
	one, _ := device.Append(d, "x")
	other, _ := device.Append(d, "yz")
	device.Cut(one, 1)
	device.Sync(other)
	device.Append(d, text(most))
	if one != (api.Device{Bytes: "abcdx", Sure: 2}) || other != (api.Device{Bytes: "abcdyz", Sure: 2}) {
		t.Errorf("%s, and %s", shown(one), shown(other))
	}
	crashed(t, d, 1, api.Device{Bytes: "abc", Sure: 3}, api.OK)
	crashed(t, d, 1, api.Device{Bytes: "abc", Sure: 3}, api.OK)
}

// FuzzAll is for P12.1 to P12.3: any device, any text and any number.
func FuzzAll(f *testing.F) {
	f.Add("abcd", 2, "e", 1)
	f.Add("", 0, "", 0)
	f.Add("a", 2, "b", -1)
	f.Fuzz(func(t *testing.T, bytes string, sure int, s string, n int) {
		d := api.Device{Bytes: bytes, Sure: sure}
		plainly(t, d, []int{n, -n, n - sure, math.MaxInt - sure, len(bytes) - sure})
		want, errno := plainAppend(d, s)
		appended(t, d, s, want, errno)
	})
}

func BenchmarkAppend(b *testing.B) {
	record := text(300)
	for b.Loop() {
		d := api.Device{}
		for range 600 {
			d, _ = device.Append(d, record)
		}
	}
}
