package zxid

import (
	"fmt"
	"math"
	"math/rand"
	"testing"

	"witan/api"
)

func same(t *testing.T, what string, got, want any) {
	t.Helper()
	if a, b := fmt.Sprint(got), fmt.Sprint(want); a != b {
		t.Errorf("%s: %s, want %s", what, a, b)
	}
}

// P2.1, P2.4
func TestCmp(t *testing.T) {
	row := []api.Zxid{{Epoch: math.MinInt, N: 9}, {Epoch: -1, N: 5}, {}, {Epoch: 0, N: 1}, {Epoch: 1, N: math.MinInt}, {Epoch: 1, N: 0}, {Epoch: 1, N: math.MaxInt}, {Epoch: 2, N: 0}, {Epoch: math.MaxInt, N: 0}}
	for i, a := range row {
		for j, b := range row {
			want := 0
			if i < j {
				want = -1
			} else if i > j {
				want = 1
			}
			same(t, fmt.Sprint("Cmp of ", a, b), Cmp(a, b), want)
		}
	}
}

func TestNext(t *testing.T) {
	for _, c := range []struct {
		z, want api.Zxid
		e       api.Errno
	}{
		{api.Zxid{Epoch: 3, N: 7}, api.Zxid{Epoch: 3, N: 8}, api.OK},
		{api.Zxid{}, api.Zxid{N: 1}, api.OK},
		{api.Zxid{Epoch: api.MaxCount, N: api.MaxCount - 1}, api.Zxid{Epoch: api.MaxCount, N: api.MaxCount}, api.OK},
		{api.Zxid{Epoch: -1}, api.Zxid{}, api.ErrArg},
		{api.Zxid{Epoch: api.MaxCount + 1, N: api.MaxCount}, api.Zxid{}, api.ErrArg},
		{api.Zxid{N: -1}, api.Zxid{}, api.ErrArg},
		{api.Zxid{N: api.MaxCount}, api.Zxid{}, api.ErrLong},
		{api.Zxid{N: math.MaxInt}, api.Zxid{}, api.ErrLong},
	} {
		z, e := Next(c.z)
		same(t, fmt.Sprint("Next of ", c.z), []any{z, e}, []any{c.want, c.e})
	}
}

func TestLast(t *testing.T) {
	same(t, "Last of none", Last(nil), api.Zxid{})
	same(t, "Last", Last([]api.Zxid{{Epoch: 1, N: 9}, {Epoch: 2, N: 1}, {Epoch: 2, N: 0}}), api.Zxid{Epoch: 2, N: 1})
	same(t, "Last below zero", Last([]api.Zxid{{Epoch: -2}, {Epoch: -1}}), api.Zxid{Epoch: -1})
}

// P2.2, P2.5
func TestOwner(t *testing.T) {
	for epoch, want := range map[int]int{math.MinInt: -1, -1: -1, 0: -1, 1: 1, 15: 15, 16: 0, 17: 1, api.MaxCount: 0} {
		same(t, fmt.Sprint("Owner of ", epoch), Owner(epoch), want)
	}
}

func TestFresh(t *testing.T) {
	for epoch := range 70 {
		for id := range api.MaxServers {
			want := epoch + 1
			for Owner(want) != id {
				want++
			}
			got, e := Fresh(epoch, id)
			same(t, fmt.Sprint("Fresh of ", epoch, id), []any{got, e}, []any{want, api.OK})
		}
	}
	for _, c := range []struct {
		epoch, id, want int
		e               api.Errno
	}{
		{0, -1, 0, api.ErrArg}, {0, 16, 0, api.ErrArg}, {-1, 3, 0, api.ErrArg}, {math.MaxInt, 16, 0, api.ErrArg},
		{api.MaxCount - 15, 3, 0, api.ErrLong}, {math.MaxInt, 0, 0, api.ErrLong},
		{api.MaxCount - 16, 0, api.MaxCount, api.OK}, {api.MaxCount - 16, 15, api.MaxCount - 1, api.OK},
	} {
		got, e := Fresh(c.epoch, c.id)
		same(t, fmt.Sprint("Fresh of ", c.epoch, c.id), []any{got, e}, []any{c.want, c.e})
	}
}

// P2.3
func TestText(t *testing.T) {
	same(t, "Text", Text(api.Zxid{Epoch: 3, N: 7}), "3.7")
	same(t, "Text of the ends", Text(api.Zxid{N: api.MaxCount}), "0.1099511627776")
	for _, z := range []api.Zxid{{Epoch: -1}, {N: -1}, {Epoch: api.MaxCount + 1}, {N: api.MaxCount + 1}} {
		same(t, fmt.Sprint("Text of ", z), Text(z), "")
	}
}

func TestParse(t *testing.T) {
	for _, s := range []string{"", ".", "3", "3.", ".7", "03.7", "3.07", "3.7.1", "+3.7", "-3.7", "3. 7", "3.7 ", "00.0", "1099511627777.0", "0.1099511627777", "0.00000000000001", "99999999999999.0", "3,7", "٣.7"} {
		z, e := Parse(s)
		same(t, "Parse of "+s, []any{z, e}, []any{api.Zxid{}, api.ErrForm})
	}
	z, e := Parse("1099511627776.0")
	same(t, "Parse", []any{z, e}, []any{api.Zxid{Epoch: api.MaxCount}, api.OK})
}

// P2.6
func TestBack(t *testing.T) {
	r := rand.New(rand.NewSource(1))
	for range 3000 {
		z := api.Zxid{Epoch: r.Intn(1 << r.Intn(41)), N: r.Intn(1 << r.Intn(41))}
		got, e := Parse(Text(z))
		same(t, "Parse of Text", []any{got, e}, []any{z, api.OK})
		s := []byte("0123456789.")
		for i := range s {
			s[i] = "0123456789.."[r.Intn(12)]
		}
		s = s[:r.Intn(len(s))]
		if z, e := Parse(string(s)); e == api.OK {
			same(t, "Text of Parse", Text(z), string(s))
		}
	}
}
