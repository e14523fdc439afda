package client

import (
	"fmt"
	"math"
	"math/rand"
	"testing"

	"witan/api"
	"witan/zxid"
)

func same(t *testing.T, what string, got, want any) {
	t.Helper()
	if a, b := fmt.Sprint(got), fmt.Sprint(want); a != b {
		t.Errorf("%s: %s, want %s", what, a, b)
	}
}

func z(n int) api.Zxid { return api.Zxid{Epoch: 16, N: n} }

// in: client 2 in that phase, of server 5, with session 7.
func in(phase int) api.Client {
	c, _ := New(2)
	if phase > 0 {
		c, _, _ = Connect(c, 5)
	}
	if phase > 1 {
		c, _ = Hear(c, api.Word{Client: 2, Server: 5, Kind: api.TellOpen, Session: 7, At: z(3)})
	}
	return c
}

const base = 3 << 20

// P26.1
func TestNew(t *testing.T) {
	for id := range api.MaxClients {
		c, e := New(id)
		same(t, "New", []any{c, e}, []any{api.Client{Id: id, Server: -1, Xid: (id + 1) * 1048576}, api.OK})
	}
	for _, id := range []int{-1, 4, math.MinInt} {
		c, e := New(id)
		same(t, "New of no client", []any{c, e}, []any{api.Client{}, api.ErrArg})
	}
}

// P26.2
func TestConnect(t *testing.T) {
	c, l, res := Connect(in(0), 5)
	same(t, "Connect", []any{c, l, len(res)}, []any{api.Client{Id: 2, Server: 5, Phase: 1, Xid: base + 1}, []api.Word{{Client: 2, Server: 5, Kind: api.SayHello, Xid: base + 1}}, 0})
	c, _, _ = Read(in(2), api.ReadKids, "/", false)
	c, l, res = Connect(c, 1)
	same(t, "Connect anew", []any{c, l, res}, []any{api.Client{Id: 2, Server: 1, Phase: 1, Session: 7, Seen: z(3), Xid: base + 3}, []api.Word{{Client: 2, Server: 1, Kind: api.SayHello, Xid: base + 3, Session: 7, At: z(3)}}, []api.Result{{Client: 2, Xid: base + 2, Unknown: true}}})
	c, _, _ = Ask(in(2), api.Request{})
	c, res = Lost(c)
	same(t, "Lost", []any{c, res}, []any{api.Client{Id: 2, Server: 5, Session: 7, Seen: z(3), Xid: base + 2}, []api.Result{{Client: 2, Xid: base + 2, Unknown: true}}})
	_, res = Lost(c)
	same(t, "Lost again", len(res), 0)
}

// P26.3
func TestAsk(t *testing.T) {
	r := api.Request{Kind: api.ReqOps, Session: 99, Xid: 98, Ops: []api.Op{{Kind: 1, Path: "/a"}}}
	c, l, e := Ask(in(2), r)
	r.Session, r.Xid = 7, base+2
	want := in(2)
	want.Xid, want.Waits = base+2, base+2
	same(t, "Ask", []any{c, l, e}, []any{want, []api.Word{{Client: 2, Server: 5, Kind: api.SayAsk, Ask: r}}, api.OK})
	c, l, e = Read(in(2), api.ReadKids, "bad", true)
	want.Read = api.ReadKids
	same(t, "Read", []any{c, l, e}, []any{want, []api.Word{{Client: 2, Server: 5, Kind: api.SayRead, Xid: base + 2, Read: api.ReadKids, Path: "bad", Watch: true}}, api.OK})
	busy := c
	for i, x := range []struct {
		c    api.Client
		kind int
		e    api.Errno
	}{{in(0), 1, api.ErrDown}, {in(1), 1, api.ErrDown}, {busy, 1, api.ErrBusy}, {in(0), 0, api.ErrArg}, {busy, 3, api.ErrArg}, {in(2), -1, api.ErrArg}} {
		c, l, e := Read(x.c, x.kind, "/", false)
		same(t, fmt.Sprint("Read refused ", i), []any{c, len(l), e}, []any{x.c, 0, x.e})
		if x.e != api.ErrArg {
			c, l, e = Ask(x.c, r)
			same(t, fmt.Sprint("Ask refused ", i), []any{c, len(l), e}, []any{x.c, 0, x.e})
		}
	}
	same(t, "Beat", [][]api.Word{Beat(in(0)), Beat(in(1)), Beat(in(2))}, [][]api.Word{nil, nil, {{Client: 2, Server: 5, Kind: api.SayBeat}}})
}

// P26.4
func TestHearNothing(t *testing.T) {
	waits, _, _ := Ask(in(2), api.Request{})
	reads, _, _ := Read(in(2), api.ReadNode, "/", false)
	for i, x := range []struct {
		c api.Client
		w api.Word
	}{
		{in(1), api.Word{Client: 1, Server: 5, Kind: api.TellOpen}}, {in(1), api.Word{Client: 2, Server: 4, Kind: api.TellOpen}}, {in(0), api.Word{Client: 2, Server: -1, Kind: api.TellOpen}}, {in(2), api.Word{Client: 2, Server: 5, Kind: api.TellOpen, Session: 9}},
		{in(2), api.Word{Client: 2, Server: 5, Kind: 99, At: z(9)}}, {in(2), api.Word{Client: 2, Server: 5, Kind: api.SayHello, At: z(9)}}, {in(2), api.Word{Client: 2, Server: 5, Kind: api.TellDone, At: z(9)}}, {waits, api.Word{Client: 2, Server: 5, Kind: api.TellDone, Xid: base + 1, At: z(9)}},
		{waits, api.Word{Client: 2, Server: 5, Kind: api.TellRead, Xid: base + 2, At: z(9)}}, {reads, api.Word{Client: 2, Server: 5, Kind: api.TellDone, Xid: base + 2, At: z(9)}},
	} {
		c, res := Hear(x.c, x.w)
		same(t, fmt.Sprint("a word that does nothing ", i), []any{c, len(res)}, []any{x.c, 0})
	}
}

func TestHear(t *testing.T) {
	c := in(2)
	same(t, "TellOpen", c, api.Client{Id: 2, Server: 5, Phase: 2, Session: 7, Seen: z(3), Xid: base + 1})
	for _, e := range []api.Errno{api.ErrSession, api.ErrLeader} {
		waits, _, _ := Ask(in(2), api.Request{})
		c, res := Hear(waits, api.Word{Client: 2, Server: 5, Kind: api.TellNo, Err: e, At: z(9)})
		want := api.Client{Id: 2, Server: 5, Session: 7, Seen: z(3), Xid: base + 2}
		if e == api.ErrSession {
			want.Session = 0
		}
		same(t, "TellNo", []any{c, res}, []any{want, []api.Result{{Client: 2, Xid: base + 2, Unknown: true}}})
	}
	n := api.Note{Session: 7, Kind: 1, Path: "/a", What: 2, At: z(5)}
	for phase := 1; phase < 3; phase++ {
		c, _ := Hear(in(phase), api.Word{Client: 2, Server: 5, Kind: api.TellNote, Note: n, At: z(99)})
		c, res := Hear(c, api.Word{Client: 2, Server: 5, Kind: api.TellNote, Note: api.Note{At: z(4)}})
		same(t, "TellNote", []any{c.Notes, c.Seen, len(res)}, []any{[]api.Note{n, {At: z(4)}}, z(5), 0})
	}
	waits, _, _ := Ask(in(2), api.Request{})
	w := api.Word{Client: 2, Server: 5, Kind: api.TellDone, Xid: base + 2, Err: 3, At: z(6), Made: "/m"}
	c, res := Hear(waits, w)
	same(t, "TellDone", []any{c.Waits, c.Seen, c.Phase, res}, []any{0, z(6), 2, []api.Result{{Client: 2, Xid: base + 2, Word: w}}})
	_, res = Hear(c, w)
	same(t, "TellDone again", len(res), 0)
	reads, _, _ := Read(in(2), api.ReadNode, "/", false)
	w = api.Word{Client: 2, Server: 5, Kind: api.TellRead, Xid: base + 2, At: z(1), Names: []string{"a"}}
	c, res = Hear(reads, w)
	same(t, "TellRead of less", []any{c.Waits, c.Read, c.Seen, res}, []any{0, 0, z(3), []api.Result{{Client: 2, Xid: base + 2, Word: w}}})
}

// P26.5
func TestMove(t *testing.T) {
	for i, c := range []struct {
		old, now           []int
		server, draw, want int
	}{
		{[]int{0, 1}, []int{0, 1, 2}, 0, 0, 0}, {[]int{0, 1}, []int{0, 1, 2}, 0, 1, 0}, {[]int{0, 1}, []int{0, 1, 2}, 0, 2, 2}, {[]int{0, 1, 2}, []int{0, 1}, 2, 3, 1}, {[]int{0, 1, 2}, []int{0, 1}, 1, 2, 1},
		{[]int{0}, nil, 0, 5, -1}, {[]int{0, 1}, []int{5, 6, 7}, 0, 4, 6}, {[]int{0, 1}, []int{4, 0, 3}, 0, 1, 4}, {[]int{0, 1}, []int{4, 0, 3}, 0, 2, 3}, {[]int{0, 1}, []int{4, 0, 3}, 4, 3, 4}, {[]int{0, 1}, []int{0, 1}, 1, 9, 1},
		{nil, []int{3, 4}, 3, 1, 4}, {nil, []int{0, 1, 2}, 9, -1, int(uint64(math.MaxUint64) % 3)}, {nil, []int{0, 1, 2, 3, 4, 5, 6}, 9, math.MinInt, int(uint64(1<<63) % 7)},
	} {
		same(t, fmt.Sprint("Move ", i), Move(c.old, c.now, c.server, c.draw), c.want)
	}
}

// P26.6
func TestOnce(t *testing.T) {
	r := rand.New(rand.NewSource(1))
	for range 300 {
		c := in(0)
		asked, ended := map[int]int{}, map[int]int{}
		for range 80 {
			was := c
			var res []api.Result
			switch r.Intn(8) {
			case 0:
				c, _, res = Connect(c, r.Intn(2))
			case 1:
				c, res = Lost(c)
			case 2:
				c, _, _ = Ask(c, api.Request{})
			case 3:
				c, _, _ = Read(c, 1+r.Intn(2), "/", false)
			default:
				c, res = Hear(c, api.Word{Client: 2, Server: c.Server, Kind: api.TellOpen + r.Intn(5), Xid: c.Xid - r.Intn(2), At: z(r.Intn(9)), Err: api.Errno(13 + r.Intn(2)), Note: api.Note{At: z(r.Intn(9))}})
			}
			if c.Waits != 0 && c.Waits != was.Waits {
				asked[c.Waits]++
			}
			for _, x := range res {
				ended[x.Xid]++
			}
			if zxid.Cmp(c.Seen, was.Seen) < 0 || c.Xid < was.Xid {
				t.Fatalf("%v becomes %v", was, c)
			}
		}
		if c.Waits != 0 {
			ended[c.Waits]++
		}
		same(t, "each request ends just once", ended, asked)
	}
}

// P26.7
func TestEvenly(t *testing.T) {
	for n := 1; n < 6; n++ {
		for more := range 5 {
			var old, now []int
			for id := range n + more {
				if id < n {
					old = append(old, id)
				}
				now = append(now, id)
			}
			count := map[int]int{}
			for _, server := range old {
				for k := range len(now) {
					to := Move(old, now, server, k)
					count[to]++
					if to != server && to < n {
						t.Fatalf("of %d, %d added, a client of %d goes to %d", n, more, server, to)
					}
				}
			}
			for _, id := range now {
				same(t, fmt.Sprint("of ", n, more, " the server ", id), count[id], n)
			}
			for _, server := range old {
				same(t, "the others are dropped", Move(now, old, server, 3), server)
			}
		}
	}
}
