package codec

import (
	"bytes"
	"fmt"
	"hash/crc32"
	"math"
	"math/rand"
	"strings"
	"testing"

	"witan/api"
)

func same(t *testing.T, what string, got, want any) {
	t.Helper()
	if a, b := fmt.Sprint(got), fmt.Sprint(want); a != b {
		t.Errorf("%s: %s, want %s", what, a, b)
	}
}

var numbers = []int{0, 1, -1, 2, 63, 64, -64, -65, 8191, 8192, api.MaxLoad, api.MaxCount, math.MaxInt, math.MinInt, math.MaxInt - 1, math.MinInt + 1}

// P1.1
func TestPutInt(t *testing.T) {
	for n, want := range map[int]string{0: "00", -1: "01", 1: "02", 63: "7e", -64: "7f", 64: "8001", -65: "8101",
		math.MaxInt: "feffffffffffffffff01", math.MinInt: "ffffffffffffffffff01"} {
		same(t, "PutInt", fmt.Sprintf("%x", PutInt(nil, n)), want)
	}
	same(t, "PutInt behind", PutInt([]byte{9}, 1), []byte{9, 2})
}

func TestPutText(t *testing.T) {
	same(t, "PutText", PutText([]byte{9}, "ab"), []byte{9, 4, 'a', 'b'})
	same(t, "PutText of none", PutText(nil, ""), []byte{0})
	long := PutText(nil, strings.Repeat("x", 64))
	same(t, "PutText long", []any{len(long), long[0], long[1]}, []any{66, 0x80, 1})
}

// P1.2
func TestInt(t *testing.T) {
	nine := strings.Repeat("\xff", 9)
	for _, c := range []struct {
		b  string
		at int
		e  api.Errno
	}{
		{"\x00", -1, api.ErrArg}, {"\x00", 2, api.ErrArg}, {"", 1, api.ErrArg}, {"\x00", math.MaxInt, api.ErrArg}, {"\x00", math.MinInt, api.ErrArg},
		{"\x00", 1, api.ErrShort}, {"", 0, api.ErrShort}, {"\x80", 0, api.ErrShort}, {nine, 0, api.ErrShort},
		{nine + "\x02", 0, api.ErrLong}, {nine + "\x80", 0, api.ErrLong}, {nine + "\x81\x00", 0, api.ErrLong},
		{nine + "\x00", 0, api.ErrForm}, {"\x80\x00", 0, api.ErrForm}, {"\x81\x80\x00", 0, api.ErrForm},
	} {
		n, end, e := Int([]byte(c.b), c.at)
		same(t, fmt.Sprintf("Int of %x at %d", c.b, c.at), []any{n, end, e}, []any{0, 0, c.e})
	}
	n, end, e := Int([]byte("\x07\x80\x01\x05"), 1)
	same(t, "Int within", []any{n, end, e}, []any{64, 3, api.OK})
	n, end, e = Int([]byte(nine+"\x01"), 0)
	same(t, "Int least", []any{n, end, e}, []any{math.MinInt, 10, api.OK})
}

func TestText(t *testing.T) {
	for _, c := range []struct {
		b []byte
		e api.Errno
	}{
		{nil, api.ErrShort}, {[]byte{0x80, 0}, api.ErrForm}, {PutInt(nil, -1), api.ErrForm}, {PutInt(nil, api.MaxLoad+1), api.ErrLong},
		{PutInt(nil, math.MaxInt), api.ErrLong}, {PutInt(nil, api.MaxLoad), api.ErrShort}, {[]byte{4, 'a'}, api.ErrShort},
	} {
		s, end, e := Text(c.b, 0)
		same(t, fmt.Sprintf("Text of %x", c.b), []any{s, end, e}, []any{"", 0, c.e})
	}
	s, end, e := Text([]byte{9, 4, 'a', 'b', 7}, 1)
	same(t, "Text", []any{s, end, e}, []any{"ab", 4, api.OK})
	_, _, e = Text([]byte{0}, 2)
	same(t, "Text outside", e, api.ErrArg)
	full := PutText(nil, strings.Repeat("z", api.MaxLoad))
	s, end, e = Text(full, 0)
	same(t, "longest text", []any{len(s), end, e}, []any{api.MaxLoad, len(full), api.OK})
}

// P1.3
func TestCrc(t *testing.T) {
	same(t, "Crc", Crc([]byte("123456789")), uint32(0xe3069283))
	same(t, "Crc of none", Crc(nil), 0)
	r := rand.New(rand.NewSource(1))
	for n := range 300 {
		b := make([]byte, n)
		r.Read(b)
		same(t, "Crc against the library's", Crc(b), crc32.Checksum(b, crc32.MakeTable(crc32.Castagnoli)))
	}
}

// P1.4
func TestSealOpen(t *testing.T) {
	b, e := Seal([]byte("a"))
	sum := Crc([]byte{2, 'a'})
	same(t, "Seal", []any{b, e}, []any{[]byte{2, 'a', byte(sum), byte(sum >> 8), byte(sum >> 16), byte(sum >> 24)}, api.OK})
	b, e = Seal(make([]byte, api.MaxLoad+1))
	same(t, "Seal of too much", []any{len(b), e}, []any{0, api.ErrLong})
	b, e = Seal(make([]byte, api.MaxLoad))
	load, end, f := Open(b, 0)
	same(t, "the longest frame", []any{e, len(load), end == len(b), f}, []any{api.OK, api.MaxLoad, true, api.OK})
	none, _ := Seal(nil)
	load, end, f = Open(none, 0)
	same(t, "an empty frame", []any{load, end, f}, []any{[]byte{}, 5, api.OK})
}

func TestOpenErrors(t *testing.T) {
	b, _ := Seal([]byte("ab"))
	bad := append([]byte(nil), b...)
	bad[len(bad)-1] ^= 1
	for _, c := range []struct {
		b  []byte
		at int
		e  api.Errno
	}{
		{b, -1, api.ErrArg}, {b, len(b) + 1, api.ErrArg}, {b, len(b), api.ErrShort}, {[]byte{0x80, 0}, 0, api.ErrForm},
		{PutInt(nil, -1), 0, api.ErrForm}, {PutInt(nil, api.MaxLoad+1), 0, api.ErrLong}, {b[:len(b)-1], 0, api.ErrShort}, {bad, 0, api.ErrSum},
	} {
		load, end, e := Open(c.b, c.at)
		same(t, fmt.Sprintf("Open of %x at %d", c.b, c.at), []any{load, end, e}, []any{[]byte{}, 0, c.e})
	}
}

// P1.5, P1.7
func TestFrames(t *testing.T) {
	var b []byte
	var ends []int
	for _, s := range []string{"one", "", "three", strings.Repeat("4", 200)} {
		f, _ := Seal([]byte(s))
		b = append(b, f...)
		ends = append(ends, len(b))
	}
	for n := range len(b) + 1 {
		whole, at := 0, 0
		for i, end := range ends {
			if end <= n {
				whole, at = i+1, end
			}
		}
		l, got := Frames(b[:n])
		same(t, "Frames cut", []any{len(l), got}, []any{whole, at})
	}
	l, _ := Frames(b)
	same(t, "loads", []string{string(l[0]), string(l[1]), string(l[2])}, []string{"one", "", "three"})
	b[ends[0]+1] ^= 0x80
	l, at := Frames(b)
	same(t, "Frames up to a wrong one", []any{len(l), at}, []any{1, ends[0]})
}

// P1.6
func TestBack(t *testing.T) {
	for _, n := range numbers {
		b := PutInt([]byte{1, 2}, n)
		got, end, e := Int(b, 2)
		same(t, "Int back", []any{got, end, e}, []any{n, len(b), api.OK})
	}
	r := rand.New(rand.NewSource(2))
	for range 20000 {
		b := make([]byte, r.Intn(12))
		r.Read(b)
		for i := range b {
			if r.Intn(3) > 0 {
				b[i] |= 0x80
			}
		}
		if n, end, e := Int(b, 0); e == api.OK && !bytes.Equal(PutInt(nil, n), b[:end]) {
			t.Fatalf("%x is read as %d, which is laid in another way", b[:end], n)
		}
		if s, end, e := Text(b, 0); e == api.OK && !bytes.Equal(PutText(nil, s), b[:end]) {
			t.Fatalf("%x is read as %q, which is laid in another way", b[:end], s)
		}
	}
}

// P1.8
func TestTurned(t *testing.T) {
	r := rand.New(rand.NewSource(3))
	for range 3000 {
		load := make([]byte, 1+r.Intn(60))
		r.Read(load)
		b, _ := Seal(load)
		first := 8 * (len(b) - len(load) - sumSize)
		from := first + r.Intn(8*len(b)-first)
		turned := false
		for i := from; i < min(from+32, 8*len(b)); i++ {
			if r.Intn(2) == 0 {
				b[i/8] ^= 1 << (i % 8)
				turned = true
			}
		}
		if _, _, e := Open(b, 0); turned && e != api.ErrSum {
			t.Fatalf("turned bits from %d on: %d", from, e)
		}
	}
}

// Rule R3: what is handed in stays, with the room behind it.
func TestRoomBehind(t *testing.T) {
	room := []byte{1, 2, 3, 4, 5, 6}
	PutInt(room[:1], 300)
	PutText(room[:1], "xyz")
	same(t, "the room behind", room, []byte{1, 2, 3, 4, 5, 6})
	b, _ := Seal([]byte("abc"))
	load, _, _ := Open(b, 0)
	load[0] = 'z'
	same(t, "the frame", b[1], 'a')
}
