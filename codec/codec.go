// Package codec is layer 1: numbers and texts as bytes, each in one form, and bytes framed with a sum.
package codec

import (
	"witan/api"
)

const (
	most    = 10 // bytes of the longest number
	sumSize = 4
)

// PutInt: b, and behind it n.
func PutInt(b []byte, n int) []byte {
	return layInt(roomy(b, most), n)
}

// PutText: b, and behind it how many bytes s has, and these.
func PutText(b []byte, s string) []byte {
	return append(layInt(roomy(b, most+len(s)), len(s)), s...)
}

// Int: the number at the place at, and the place behind it.
func Int(b []byte, at int) (int, int, api.Errno) {
	return read(b, at, (*reader).number)
}

// Text: the text at the place at, and the place behind it.
func Text(b []byte, at int) (string, int, api.Errno) {
	return read(b, at, (*reader).text)
}

// Seal: the frame of load.
func Seal(load []byte) ([]byte, api.Errno) {
	if len(load) > api.MaxLoad {
		return nil, api.ErrLong
	}
	b := layInt(roomy(nil, most+len(load)+sumSize), len(load))
	b = append(b, load...)
	return laySum(b, Crc(b)), api.OK
}

// Open: the load of the frame at the place at, and the place behind the frame.
func Open(b []byte, at int) ([]byte, int, api.Errno) {
	return read(b, at, (*reader).frame)
}

// Frames: the loads of the frames from place 0 on, and the place where they end.
func Frames(b []byte) ([][]byte, int) {
	var l [][]byte
	at := 0
	for at < len(b) {
		load, end, e := Open(b, at)
		if e != api.OK {
			break
		}
		l = append(l, load)
		at = end
	}
	return l, at
}

// roomy: b in new memory, with room for n bytes more.
func roomy(b []byte, n int) []byte {
	return append(make([]byte, 0, len(b)+n), b...)
}

// layInt: the sign goes to the lowest bit, so that numbers near 0 are short.
func layInt(b []byte, n int) []byte {
	u := uint64(n)<<1 ^ uint64(n>>63)
	for range most {
		if u < 0x80 {
			break
		}
		b = append(b, byte(u)|0x80)
		u >>= 7
	}
	return append(b, byte(u))
}

func laySum(b []byte, sum uint32) []byte {
	for i := range sumSize {
		b = append(b, byte(sum>>(8*i)))
	}
	return b
}
