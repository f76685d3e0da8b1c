package wal_test

import (
	"encoding/binary"
	"hash/crc32"
	"strings"

	"ecclesia/api"
)

// What the chapter says, with frames that are laid here, and the library's sums.

// most is how many bytes a device has at most.
const most = 200000

// plainFrame is the frame of a text, be it a record or not.
func plainFrame(text string) string {
	made := binary.LittleEndian.AppendUint16(nil, uint16(len(text)))
	made = append(made, text...)
	return string(binary.LittleEndian.AppendUint32(made, crc32.ChecksumIEEE(made)))
}

// plainFrames are those of texts, one behind the other.
func plainFrames(texts ...string) string {
	var all strings.Builder
	for _, text := range texts {
		all.WriteString(plainFrame(text))
	}
	return all.String()
}

// plainRecord says if a text is a record.
func plainRecord(text string) bool { return len(text) >= 1 && len(text) <= 4000 }

// plainDevice says if a device may be.
func plainDevice(d api.Device) bool {
	return len(d.Bytes) <= most && d.Sure >= 0 && d.Sure <= len(d.Bytes)
}

// plainRight says if a log may be.
func plainRight(l api.Log) bool {
	if !plainDevice(l.Device) {
		return false
	}
	rest := l.Device.Bytes
	for _, record := range l.Records {
		behind, is := strings.CutPrefix(rest, plainFrame(record))
		if !is || !plainRecord(record) {
			return false
		}
		rest = behind
	}
	return rest == ""
}

// plainBegin is what Begin answers.
func plainBegin(l api.Log, record string) (api.Log, api.Errno) {
	if !plainRight(l) || !plainRecord(record) {
		return api.Log{}, api.ErrArg
	}
	made := api.Log{}
	made.Device.Bytes = l.Device.Bytes + plainFrame(record)
	made.Device.Sure = l.Device.Sure
	for _, other := range l.Records {
		made.Records = append(made.Records, other)
	}
	made.Records = append(made.Records, record)
	if len(made.Device.Bytes) > most {
		return api.Log{}, api.ErrLong
	}
	return made, api.OK
}

// plainAppend is what Append answers.
func plainAppend(l api.Log, record string) (api.Log, api.Errno) {
	made, e := plainBegin(l, record)
	made.Device.Sure = len(made.Device.Bytes)
	return made, e
}

// plainOpen is what Open answers: a record is there as long as its frame is what
// stands next.
func plainOpen(d api.Device) (api.Log, api.Errno) {
	if !plainDevice(d) {
		return api.Log{}, api.ErrArg
	}
	made, rest := api.Log{}, d.Bytes
	for len(rest) >= 2 {
		size := int(rest[0]) + 256*int(rest[1])
		if len(rest) < 2+size+4 || !plainRecord(rest[2:2+size]) {
			break
		}
		record := rest[2 : 2+size]
		behind, is := strings.CutPrefix(rest, plainFrame(record))
		if !is {
			break
		}
		made.Records = append(made.Records, record)
		made.Device.Bytes += plainFrame(record)
		rest = behind
	}
	made.Device.Sure = len(made.Device.Bytes)
	return made, api.OK
}
