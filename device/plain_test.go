package device_test

import (
	"math/big"

	"ecclesia/api"
)

// What the chapter says, byte by byte: each one of a device is sure or not, and
// numbers have no end.

// place is a byte of a device, and if it is sure.
type place struct {
	one  byte
	sure bool
}

// whole is a number that has no end.
func whole(n int) *big.Int { return big.NewInt(int64(n)) }

// above says if one number is above another.
func above(a, b *big.Int) bool { return a.Cmp(b) > 0 }

// plainRight says if a device may be.
func plainRight(d api.Device) bool {
	size, sure := whole(len(d.Bytes)), whole(d.Sure)
	return !above(size, whole(200000)) && sure.Sign() >= 0 && !above(sure, size)
}

// places are those of a device that may be.
func places(d api.Device) []place {
	list := []place{}
	for i, one := range []byte(d.Bytes) {
		list = append(list, place{one, i < d.Sure})
	}
	return list
}

// laid is the device of these places.
func laid(list []place) api.Device {
	made, sure := []byte{}, 0
	for i, p := range list {
		made = append(made, p.one)
		if p.sure {
			sure = i + 1
		}
	}
	return api.Device{Bytes: string(made), Sure: sure}
}

// plainAppend is what Append answers.
func plainAppend(d api.Device, s string) (api.Device, api.Errno) {
	if !plainRight(d) {
		return api.Device{}, api.ErrArg
	}
	if above(new(big.Int).Add(whole(len(d.Bytes)), whole(len(s))), whole(200000)) {
		return api.Device{}, api.ErrLong
	}
	list := places(d)
	for _, one := range []byte(s) {
		list = append(list, place{one, false})
	}
	return laid(list), api.OK
}

// plainSync is what Sync answers.
func plainSync(d api.Device) (api.Device, api.Errno) {
	if !plainRight(d) {
		return api.Device{}, api.ErrArg
	}
	list := places(d)
	for i := range list {
		list[i].sure = true
	}
	return laid(list), api.OK
}

// plainCrash is what Crash answers.
func plainCrash(d api.Device, more int) (api.Device, api.Errno) {
	if !plainRight(d) {
		return api.Device{}, api.ErrArg
	}
	var left []place
	room := more
	for _, p := range places(d) {
		if !p.sure {
			if room <= 0 {
				break
			}
			room--
		}
		left = append(left, place{p.one, true})
	}
	return laid(left), api.OK
}

// plainCut is what Cut answers.
func plainCut(d api.Device, n int) (api.Device, api.Errno) {
	if !plainRight(d) || n < 0 || above(whole(n), whole(len(d.Bytes))) {
		return api.Device{}, api.ErrArg
	}
	var left []place
	for i, p := range places(d) {
		if i < n {
			left = append(left, p)
		}
	}
	return laid(left), api.OK
}
