package journal

import (
	"fmt"
	"math/rand"
	"strings"
	"testing"

	"witan/api"
	"witan/codec"
	"witan/disk"
	"witan/record"
	"witan/state"
)

func same(t *testing.T, what string, got, want any) {
	t.Helper()
	if a, b := fmt.Sprint(got), fmt.Sprint(want); a != b {
		t.Errorf("%s: %s, want %s", what, a, b)
	}
}

func txns(from, to int) []api.Txn {
	var l []api.Txn
	for n := from; n <= to; n++ {
		l = append(l, api.Txn{At: api.Zxid{Epoch: 16, N: n}, Xid: n, Parts: []api.Part{{Kind: api.PartPut, Node: api.Znode{Path: "/a", Version: n}}}})
	}
	return l
}

func must(d api.Disk, e api.Errno) api.Disk {
	if e != api.OK {
		panic(fmt.Sprint("error ", e))
	}
	return d
}

func empty() api.Disk { return disk.New(100000) }

// P14.1
func TestName(t *testing.T) {
	same(t, "Name", []string{Name(0), Name(17), Name(api.MaxCount), Name(-1), Name(api.MaxCount + 1)}, []string{"log.0", "log.17", "log.1099511627776", "", ""})
	d := must(disk.Append(empty(), "log.1", []byte("x")))
	for _, gen := range []int{-1, api.MaxCount + 1} {
		a, e := Add(d, gen, nil)
		l, n, f := Read(d, gen)
		k, g := Keep(d, gen, 0)
		x, h := Fresh(d, gen, nil)
		same(t, "a number that is none", []any{a, e, len(l), n, f, k, g, x, h}, []any{d, api.ErrArg, 0, 0, api.ErrArg, d, api.ErrArg, d, api.ErrArg})
	}
}

// P14.2
func TestAdd(t *testing.T) {
	d := must(Add(empty(), 3, txns(1, 2)))
	var want []byte
	for _, u := range txns(1, 2) {
		f, _ := codec.Seal(record.PutTxn(nil, u))
		want = append(want, f...)
	}
	same(t, "Add", d.Files, []api.File{{Name: "log.3", Data: want, Sure: len(want)}})
	same(t, "operations", disk.Arm(d, 9).Fuse-must(Add(disk.Arm(d, 9), 3, txns(3, 5))).Fuse, 2)
	for _, x := range []api.Disk{d, disk.Crash(d, nil)} {
		got, e := Add(x, 3, nil)
		same(t, "Add of none", []any{got, e}, []any{x, api.OK})
	}
	big := append(txns(3, 3), api.Txn{Made: strings.Repeat("x", api.MaxLoad)})
	got, e := Add(d, 3, big)
	same(t, "Add of too many bytes", []any{got, e}, []any{d, api.ErrLong})
	small := disk.New(len(want) - 1)
	got, e = Add(small, 3, txns(1, 2))
	same(t, "Add without room", []any{got, e}, []any{small, api.ErrFull})
	got, e = Add(disk.Arm(empty(), 2), 3, txns(1, 2))
	same(t, "Add as the power fails at the Sync", []any{got.Down, len(got.Files[0].Data), got.Files[0].Sure, e}, []any{true, len(want), 0, api.ErrDown})
}

// P14.3
func TestRead(t *testing.T) {
	l, n, e := Read(empty(), 3)
	same(t, "Read of no file", []any{len(l), n, e}, []any{0, 0, api.OK})
	l, n, e = Read(disk.Crash(empty(), nil), 3)
	same(t, "Read while it is down", []any{len(l), n, e}, []any{0, 0, api.ErrDown})
	d := must(Add(empty(), 3, txns(1, 3)))
	l, n, e = Read(d, 3)
	same(t, "Read", []any{l, n, e}, []any{txns(1, 3), 0, api.OK})
	size := len(d.Files[0].Data)
	for cut := range size {
		l, n, e = Read(must(disk.Cut(d, "log.3", cut)), 3)
		whole := cut * 3 / size
		same(t, fmt.Sprint("cut at ", cut), []any{l, n, e}, []any{txns(1, whole), cut - whole*size/3, api.OK})
	}
	for _, load := range [][]byte{nil, {1, 2}, record.PutTxn(nil, api.Txn{})[1:], append(record.PutTxn(nil, api.Txn{}), 0)} {
		f, _ := codec.Seal(load)
		x := must(Add(must(disk.Append(must(Add(empty(), 3, txns(1, 1))), "log.3", f)), 3, txns(2, 2)))
		l, n, e = Read(x, 3)
		same(t, "a frame of no transaction", []any{l, n, e}, []any{txns(1, 1), len(f) + size/3, api.OK})
	}
}

// P14.4, P14.7
func TestKeep(t *testing.T) {
	d := must(disk.Append(must(Add(empty(), 3, txns(1, 3))), "log.3", []byte("rest")))
	for n := range 4 {
		x := must(Keep(d, 3, n))
		l, rest, e := Read(x, 3)
		same(t, "Keep", []any{l, rest, e, x.Files[0].Sure == len(x.Files[0].Data)}, []any{txns(1, n), 0, api.OK, true})
		l, _, _ = Read(must(Add(x, 3, txns(8, 9))), 3)
		same(t, "added behind Keep", l, append(txns(1, n), txns(8, 9)...))
		armed := disk.Arm(x, 1)
		got, e := Keep(armed, 3, n)
		same(t, "nothing stands behind", []any{got, e}, []any{armed, api.OK})
	}
	for _, c := range []struct {
		d      api.Disk
		gen, n int
		e      api.Errno
	}{{d, 3, -1, api.ErrArg}, {d, 3, 4, api.ErrArg}, {d, 4, 0, api.OK}, {d, 4, 1, api.ErrNone}, {d, 4, -1, api.ErrNone}, {disk.Crash(d, nil), 3, 9, api.ErrDown}, {disk.Crash(d, nil), 4, 0, api.ErrDown}} {
		got, e := Keep(c.d, c.gen, c.n)
		same(t, fmt.Sprint("Keep of ", c.gen, c.n), []any{got, e}, []any{c.d, c.e})
	}
	got, e := Keep(disk.Arm(d, 1), 3, 1)
	same(t, "Keep as the power fails", []any{got.Down, len(got.Files[0].Data), e}, []any{true, len(d.Files[0].Data), api.ErrDown})
}

func TestFresh(t *testing.T) {
	d := must(Add(empty(), 3, txns(1, 3)))
	for _, gen := range []int{3, 4} {
		l, n, e := Read(must(Fresh(d, gen, txns(7, 8))), gen)
		same(t, "Fresh", []any{l, n, e}, []any{txns(7, 8), 0, api.OK})
	}
	same(t, "Fresh of none", []any{len(must(Fresh(d, 3, nil)).Files), must(Fresh(d, 4, nil))}, []any{0, d})
	got, e := Fresh(disk.Arm(d, 1), 3, txns(7, 8))
	same(t, "Fresh as the power fails", []any{got.Down, got.Files[0].Data, e}, []any{true, d.Files[0].Data, api.ErrDown})
	_, e = Fresh(disk.Crash(d, nil), 3, nil)
	same(t, "Fresh while it is down", e, api.ErrDown)
	x := d
	x.Cap = 1
	got, e = Fresh(x, 3, txns(7, 8))
	same(t, "Fresh without room", []any{len(got.Files), e}, []any{0, api.ErrFull})
}

// P14.5, P14.6
func TestCrash(t *testing.T) {
	r := rand.New(rand.NewSource(1))
	for range 1000 {
		d, sure := empty(), 0
		all := 0
		for all = 0; ; {
			n := 1 + r.Intn(3)
			now, e := Add(disk.Arm(d, r.Intn(4)), 1, txns(all+1, all+n))
			d, all = now, all+n
			if e != api.OK {
				break
			}
			sure = all
			l, _, _ := Read(d, 1)
			same(t, "back", l, txns(1, sure))
		}
		l, rest, e := Read(disk.Start(disk.Crash(d, []int{r.Intn(200)})), 1)
		if e != api.OK || rest < 0 || len(l) < sure || len(l) > all {
			t.Fatalf("of %d, %d safe, %d are there", all, sure, len(l))
		}
		for i, u := range l {
			if !state.SameTxn(u, txns(i+1, i+1)[0]) {
				t.Fatalf("the %d-th is %v", i, u)
			}
		}
	}
}
