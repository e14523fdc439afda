package codec

import (
	"witan/api"
	"witan/fault"
)

// reader goes through bytes, and gives up at the first that is wrong.
type reader struct {
	b  []byte
	at int
}

// read lets one go from the place at, and tells the place behind it, or with which error it gave up.
func read[T any](b []byte, at int, one func(*reader) T) (T, int, api.Errno) {
	var x, none T
	r := &reader{b, at}
	e := fault.Try(func() {
		if at < 0 || at > len(b) {
			fault.Give(api.ErrArg)
		}
		x = one(r)
	})
	if e != api.OK {
		return none, 0, e
	}
	return x, r.at, api.OK
}

func (r *reader) number() int {
	var u uint64
	for i := range most {
		if r.at == len(r.b) {
			fault.Give(api.ErrShort)
		}
		c := r.b[r.at]
		r.at++
		if i == most-1 && c > 1 {
			fault.Give(api.ErrLong)
		}
		u |= uint64(c&0x7f) << (7 * i)
		if c >= 0x80 {
			continue
		}
		if c == 0 && i > 0 {
			fault.Give(api.ErrForm)
		}
		break
	}
	return int(u>>1) ^ -int(u&1)
}

// length: how many bytes a text or a load has; tail more must stand behind them.
func (r *reader) length(tail int) int {
	n := r.number()
	switch {
	case n < 0:
		fault.Give(api.ErrForm)
	case n > api.MaxLoad:
		fault.Give(api.ErrLong)
	case len(r.b)-r.at < n+tail:
		fault.Give(api.ErrShort)
	}
	return n
}

func (r *reader) text() string {
	n := r.length(0)
	s := string(r.b[r.at : r.at+n])
	r.at += n
	return s
}

func (r *reader) frame() []byte {
	from := r.at
	n := r.length(sumSize)
	end := r.at + n
	if Crc(r.b[from:end]) != r.sum(end) {
		fault.Give(api.ErrSum)
	}
	load := roomy(r.b[r.at:end], 0)
	r.at = end + sumSize
	return load
}

func (r *reader) sum(at int) uint32 {
	var u uint32
	for i := range sumSize {
		u |= uint32(r.b[at+i]) << (8 * i)
	}
	return u
}
