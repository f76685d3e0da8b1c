package crc_test

import "encoding/binary"

// What the chapter says, step by step as it says it: slow, and with no table.

// plainSum is the sum of a text.
func plainSum(text string) uint32 {
	register := uint32(0xFFFFFFFF)
	for _, b := range []byte(text) {
		for i := range 8 {
			unlike := register&1 != uint32(b>>i&1)
			register >>= 1
			if unlike {
				register ^= 0xEDB88320
			}
		}
	}
	return register ^ 0xFFFFFFFF
}

// counted is a text behind how many bytes it has.
func counted(text string) string {
	return string(binary.LittleEndian.AppendUint16(nil, uint16(len(text)))) + text
}

// summed is a text with a sum behind it.
func summed(text string, sum uint32) string {
	return string(binary.LittleEndian.AppendUint32([]byte(text), sum))
}

// plainFrame is the frame of a text, be it a record or not.
func plainFrame(text string) string { return summed(counted(text), plainSum(counted(text))) }

// plainScan takes the records by making the frame that would have to stand next.
func plainScan(text string) ([]string, int) {
	var records []string
	passed := 0
	for passed+2 <= len(text) {
		size := int(binary.LittleEndian.Uint16([]byte(text[passed:])))
		if size < 1 || size > 4000 || passed+2+size+4 > len(text) {
			break
		}
		record := text[passed+2 : passed+2+size]
		if plainFrame(record) != text[passed:passed+2+size+4] {
			break
		}
		records = append(records, record)
		passed += 2 + size + 4
	}
	return records, passed
}
