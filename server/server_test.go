package server

import (
	"fmt"
	"testing"

	"witan/api"
	"witan/config"
	"witan/disk"
	"witan/history"
	"witan/keep"
	"witan/lead"
	"witan/state"
)

func same(t *testing.T, what string, got, want any) {
	t.Helper()
	if a, b := fmt.Sprint(got), fmt.Sprint(want); a != b {
		t.Errorf("%s: %s, want %s", what, a, b)
	}
}

func parse(s string) api.Config {
	c, e := config.Parse("0.0 1" + s)
	if e != api.OK {
		panic(s)
	}
	return c
}

func z(epoch, n int) api.Zxid { return api.Zxid{Epoch: epoch, N: n} }

const three = " 0p1g0 1p1g0 2p1g0 3o1g0"

// one is a server with all that it did so far.
type one struct {
	s   api.Server
	out api.Out
}

func (x *one) step(e api.Event) api.Out {
	var out api.Out
	x.s, out = Step(x.s, e)
	x.out.Words = append(x.out.Words, out.Words...)
	return out
}

// alone: a server by itself, which leads.
func alone() *one {
	s, _ := New(0, parse(" 0p1g0"), 100000)
	x := &one{s: s}
	x.step(api.Event{Kind: api.AtStart})
	return x
}

func word(w api.Word) api.Event { return api.Event{Kind: api.AtWord, Word: w} }

func hello(client, session, xid int) api.Event {
	return word(api.Word{Client: client, Kind: api.SayHello, Session: session, Xid: xid})
}

func ask(client, xid int, l ...api.Op) api.Event {
	return word(api.Word{Client: client, Kind: api.SayAsk, Ask: api.Request{Kind: api.ReqOps, Xid: xid, Ops: l}})
}

func create(p string) api.Op { return api.Op{Kind: api.OpCreate, Path: p, Data: "d"} }

func read(client, xid, kind int, p string, watch bool) api.Event {
	return word(api.Word{Client: client, Kind: api.SayRead, Xid: xid, Read: kind, Path: p, Watch: watch})
}

// P24.1, P24.2
func TestNew(t *testing.T) {
	s, e := New(3, parse(three), 1000)
	d, _ := keep.Format(disk.New(1000), parse(three))
	same(t, "New", []any{s, e}, []any{api.Server{Id: 3, Disk: d}, api.OK})
	for _, c := range []struct {
		id   int
		c    api.Config
		size int
		e    api.Errno
	}{{-1, api.Config{}, 0, api.ErrArg}, {16, parse(three), 1000, api.ErrArg}, {0, api.Config{}, 1000, api.ErrConfig}, {0, parse(three), 5, api.ErrFull}} {
		s, e := New(c.id, c.c, c.size)
		same(t, "New of a wrong one", []any{s, e}, []any{api.Server{}, c.e})
	}
	for _, c := range []struct {
		mode, phase int
		want        bool
	}{{api.Leading, 3, true}, {api.Leading, 4, false}, {api.Learning, 4, true}, {api.Learning, 3, false}, {api.Looking, 3, false}} {
		s.Up, s.Peer.Mode, s.Peer.Phase = true, c.mode, c.phase
		same(t, "Serves", Serves(s), c.want)
		s.Up = false
		same(t, "Serves while it is down", Serves(s), false)
	}
}

// P24.3
func TestStart(t *testing.T) {
	s, _ := New(0, parse(" 0p1g0"), 100000)
	up, out := Step(s, api.Event{Kind: api.AtStart})
	same(t, "AtStart", []any{up.Up, up.Peer.Mode, up.Peer.Phase, up.Saved.Accepted, up.Saved.Current, up.State.Next, out.Jump, len(out.Msgs), Serves(up)}, []any{true, api.Leading, 3, 16, 16, 1, []api.Zxid{{}}, 0, true})
	again, out := Step(up, api.Event{Kind: api.AtStart})
	same(t, "AtStart of one that is up", []any{Same(again, up), out}, []any{true, api.Out{}})
	for kind := -1; kind < 12; kind++ {
		e := api.Event{Kind: kind, Node: 7, Msg: api.Msg{Kind: api.MsgInfo}, Word: api.Word{Kind: api.SayHello}}
		got, out := Step(s, e)
		want := s
		switch kind {
		case api.AtCrash:
			want.Disk = disk.Crash(s.Disk, nil)
		case api.AtArm:
			want.Disk = disk.Arm(s.Disk, 7)
		case api.AtRoom:
			want.Disk.Cap = 7
		case api.AtStart:
			continue
		}
		same(t, fmt.Sprint("one that is down, at ", kind), []any{Same(got, want), out}, []any{true, api.Out{}})
	}
	got, out := Step(up, api.Event{Kind: api.AtCrash})
	same(t, "AtCrash", []any{Same(got, api.Server{Disk: disk.Crash(up.Disk, nil)}), out}, []any{true, api.Out{}})
	got, _ = Step(up, api.Event{Kind: api.AtRoom, Node: -4})
	same(t, "AtRoom", []any{got.Disk.Cap, got.Up}, []any{0, true})
	got, out = Step(api.Server{Id: 2, Disk: disk.New(9)}, api.Event{Kind: api.AtStart})
	same(t, "AtStart without a disk", []any{Same(got, api.Server{Id: 2, Disk: disk.New(9)}), out}, []any{true, api.Out{}})
	s.Disk.Cap = disk.Used(s.Disk)
	got, out = Step(s, api.Event{Kind: api.AtStart})
	same(t, "AtStart of what cannot be kept", []any{got.Up, out}, []any{false, api.Out{}})
	s.Disk.Cap = 1000
	armed, _ := Step(s, api.Event{Kind: api.AtArm, Node: 1})
	got, _ = Step(armed, api.Event{Kind: api.AtStart})
	same(t, "a fuse does not outlive a start", []any{got.Up, got.Disk.Fuse}, []any{true, 0})
}

// The example; P24.12
func TestExample(t *testing.T) {
	x := alone()
	out := x.step(hello(2, 0, 9))
	same(t, "SayHello", []any{out.Words, out.Made, len(out.Done)}, []any{[]api.Word{{Client: 2, Kind: api.TellOpen, Session: 1, At: z(16, 1)}}, []api.Txn{{At: z(16, 1), Session: 1, Xid: 9, Parts: []api.Part{{Kind: api.PartOpen, Session: 1}}}}, 1})
	out = x.step(ask(2, 10, create("/a")))
	same(t, "SayAsk", []any{out.Words, len(out.Made), len(out.Done)}, []any{[]api.Word{{Client: 2, Kind: api.TellDone, Xid: 10, Made: "/a", At: z(16, 2)}}, 1, 1})
	x.step(api.Event{Kind: api.AtCrash})
	x.step(api.Event{Kind: api.AtStart})
	out = x.step(hello(2, 1, 11))
	same(t, "SayHello with a session", out.Words, []api.Word{{Client: 2, Kind: api.TellOpen, Session: 1, At: z(16, 2)}})
	out = x.step(read(2, 12, api.ReadNode, "/a", false))
	same(t, "SayRead", out.Words, []api.Word{{Client: 2, Kind: api.TellRead, Xid: 12, At: z(16, 2), Node: api.Znode{Path: "/a", Data: "d"}}})
}

// P24.4, P24.12
func TestKept(t *testing.T) {
	x := alone()
	x.step(hello(2, 0, 9))
	for n := range 40 {
		x.step(ask(2, 10+n, create(fmt.Sprint("/", n))))
		if len(x.s.Peer.History.Log) > api.Roomy || x.s.State.At != x.s.Peer.Done {
			t.Fatalf("%d transactions, done up to %v of %v", len(x.s.Peer.History.Log), x.s.State.At, x.s.Peer.Done)
		}
		now := api.Saved{Accepted: x.s.Peer.Accepted, Current: x.s.Peer.Current, History: x.s.Peer.History, Gen: x.s.Saved.Gen}
		kept, _, e := keep.Load(disk.Start(disk.Crash(x.s.Disk, nil)))
		same(t, "what is kept", []any{keep.Same(kept, now), keep.Same(kept, x.s.Saved), e}, []any{true, true, api.OK})
		s, _ := Step(x.s, api.Event{Kind: api.AtCrash})
		s, _ = Step(s, api.Event{Kind: api.AtStart})
		same(t, "behind a crash", state.Same(s.State, x.s.State), true)
	}
	same(t, "squashed", x.s.Saved.Gen > 1, true)
}

// P24.4, P24.15
func TestFull(t *testing.T) {
	x := alone()
	x.step(hello(2, 0, 9))
	x.step(api.Event{Kind: api.AtRoom, Node: disk.Used(x.s.Disk)})
	was := x.s.Disk
	out := x.step(ask(2, 10, create("/a")))
	same(t, "a full disk", []any{Same(x.s, api.Server{Disk: was}), len(out.Words), len(out.Done), len(out.Made)}, []any{true, 0, 0, 1})
	x.step(api.Event{Kind: api.AtRoom, Node: 100000})
	x.step(api.Event{Kind: api.AtStart})
	_, e := state.Get(x.s.State, "/a")
	same(t, "what could not be kept", []any{x.s.Up, e}, []any{true, api.ErrNone})
	x.step(hello(2, 1, 11))
	x.step(api.Event{Kind: api.AtArm, Node: 2})
	out = x.step(ask(2, 12, create("/b")))
	same(t, "the power fails", []any{x.s.Up, x.s.Disk.Down, len(out.Words), len(out.Made)}, []any{false, true, 0, 1})
	kept, _ := Step(x.s, api.Event{Kind: api.AtStart, Keep: []int{999, 999, 999}})
	_, e = state.Get(kept.State, "/b")
	same(t, "what was laid down may be found", e, api.OK)
	x.step(api.Event{Kind: api.AtStart})
	_, e = state.Get(x.s.State, "/b")
	same(t, "or not", e, api.ErrNone)
}

// P24.8
func TestHello(t *testing.T) {
	x := alone()
	x.step(hello(2, 0, 9))
	down := *x
	down.s.Peer.Phase = 2
	for i, c := range []struct {
		x *one
		w api.Word
		e api.Errno
	}{
		{&down, api.Word{Client: 1, At: z(99, 0), Session: 5}, api.ErrLeader}, {x, api.Word{Client: 1, At: z(99, 0), Session: 5}, api.ErrBehind}, {x, api.Word{Client: 1, Session: 5}, api.ErrSession}, {x, api.Word{Client: 1, Session: -1, At: z(16, 1)}, api.ErrSession},
	} {
		c.w.Kind = api.SayHello
		y := *c.x
		out := y.step(word(c.w))
		same(t, fmt.Sprint("refused ", i), []any{out.Words, y.s.Conns}, []any{[]api.Word{{Client: 1, Kind: api.TellNo, Err: c.e}}, []api.Conn{{Client: 2, Session: 1, Xid: 9}}})
	}
	other := hello(1, 0, 5)
	other.Word.Server = 1
	y := *x
	same(t, "to another server", []any{y.step(other), Same(y.s, x.s)}, []any{api.Out{}, true})
	x.step(read(2, 11, api.ReadNode, "/", true))
	x.s.Waits = []api.Wait{{Client: 2, Xid: 77}, {Client: 3, Xid: 78}}
	out := x.step(hello(2, 1, 12))
	same(t, "again", []any{out.Words[0].Kind, x.s.Conns, x.s.Waits, len(x.s.Watches), x.s.Touched}, []any{api.TellOpen, []api.Conn{{Client: 2, Session: 1, Xid: 12}}, []api.Wait{{Client: 3, Xid: 78}}, 0, []int{1}})
	x.step(api.Event{Kind: api.AtGone, Node: 2})
	same(t, "AtGone", []any{len(x.s.Conns), x.s.Waits}, []any{0, []api.Wait{{Client: 3, Xid: 78}}})
	for n := range 20 {
		out = x.step(hello(3, 0, 20+n))
	}
	same(t, "no session left", []any{out.Words, len(x.s.Conns), len(x.s.Waits)}, []any{[]api.Word{{Client: 3, Kind: api.TellNo, Err: api.ErrFull}}, 0, 0})
}

func TestAsk(t *testing.T) {
	x := alone()
	for _, kind := range []int{api.SayAsk, api.SayRead, api.SayBeat, 0, 99, api.TellOpen} {
		out := x.step(word(api.Word{Client: 2, Kind: kind}))
		same(t, "without a connection", out.Words, []api.Word{{Client: 2, Kind: api.TellNo, Err: api.ErrSession}})
	}
	x.s.Conns = []api.Conn{{Client: 2, Xid: 5}}
	same(t, "without a session yet", x.step(read(2, 9, api.ReadNode, "/", true)), api.Out{})
	x.step(hello(2, 0, 9))
	x.step(hello(1, 0, 10))
	x.s.Touched = nil
	for _, client := range []int{1, 2, 1} {
		same(t, "SayBeat", x.step(word(api.Word{Client: client, Kind: api.SayBeat})), api.Out{})
	}
	same(t, "touched", x.s.Touched, []int{2, 1})
	for _, q := range []api.Request{{Kind: api.ReqOpen, Xid: 9}, {Kind: api.ReqOps, Xid: 0}, {Kind: 0, Xid: -5}} {
		out := x.step(word(api.Word{Client: 2, Kind: api.SayAsk, Ask: q}))
		same(t, "what the server refuses", []any{out.Words, len(out.Made), len(x.s.Waits)}, []any{[]api.Word{{Client: 2, Kind: api.TellDone, Xid: q.Xid, Err: api.ErrArg}}, 0, 0})
	}
	out := x.step(ask(2, 9, create("/a/b")))
	same(t, "with an error", []any{out.Words, out.Made}, []any{[]api.Word{{Client: 2, Kind: api.TellDone, Xid: 9, Err: api.ErrNone, At: z(16, 3)}}, []api.Txn{{At: z(16, 3), Session: 1, Xid: 9, Err: api.ErrNone}}})
	q := api.Request{Kind: api.ReqConfig, Xid: 20, Session: 77, Delta: api.Delta{Put: []api.Member{{Id: 5, Role: 1}}}}
	out = x.step(word(api.Word{Client: 2, Kind: api.SayAsk, Ask: q}))
	same(t, "a config without a quorum", []any{out.Words, out.Made}, []any{[]api.Word{{Client: 2, Kind: api.TellDone, Xid: 20, Err: api.ErrQuorum, At: z(16, 4)}}, []api.Txn{{At: z(16, 4), Session: 1, Xid: 20, Err: api.ErrQuorum}}})
	q.Delta.Put[0].Role = api.Observer
	out = x.step(word(api.Word{Client: 2, Kind: api.SayAsk, Ask: q}))
	same(t, "a config", []any{out.Words[0].Err, config.Text(x.s.State.Config)}, []any{api.OK, "16.5 1 0p1g0 5o0g0"})
	q = api.Request{Kind: api.ReqClose, Xid: 21}
	x.step(read(2, 22, api.ReadNode, "/", true))
	out = x.step(word(api.Word{Client: 2, Kind: api.SayAsk, Ask: q}))
	same(t, "ReqClose", []any{out.Words, x.s.State.Sessions, x.s.Conns, len(x.s.Watches)}, []any{[]api.Word{{Client: 2, Kind: api.TellDone, Xid: 21, At: z(16, 6)}, {Client: 2, Kind: api.TellNo, Err: api.ErrSession}}, []int{2}, []api.Conn{{Client: 1, Session: 2, Xid: 10}}, 0})
}

// P24.9, P24.13, P24.14
func TestRead(t *testing.T) {
	x := alone()
	x.step(hello(2, 0, 9))
	x.step(hello(1, 1, 10)) // two connections with one session
	x.step(ask(2, 11, create("/a"), create("/a/b")))
	at := z(16, 2)
	for i, c := range []struct {
		e    api.Event
		want api.Word
	}{
		{read(2, 20, api.ReadKids, "/a", false), api.Word{Names: []string{"b"}}}, {read(2, 20, api.ReadNode, "/x", true), api.Word{Err: api.ErrNone}}, {read(2, 20, api.ReadKids, "x", true), api.Word{Err: api.ErrArg}},
		{read(2, 20, 0, "/a", true), api.Word{Err: api.ErrArg}}, {read(2, 20, 3, "/a", true), api.Word{Err: api.ErrArg}}, {read(2, 20, api.ReadKids, "/a", true), api.Word{Names: []string{"b"}}},
		{read(2, 20, api.ReadNode, "/a", true), api.Word{Node: api.Znode{Path: "/a", Data: "d", Kids: 1}}},
	} {
		c.want.Client, c.want.Kind, c.want.Xid, c.want.At = 2, api.TellRead, 20, at
		same(t, fmt.Sprint("SayRead ", i), x.step(c.e).Words, []api.Word{c.want})
	}
	same(t, "watches", x.s.Watches, []api.Watch{{Session: 1, Kind: 1, Path: "/a"}, {Session: 1, Kind: 1, Path: "/x"}, {Session: 1, Kind: 2, Path: "/a"}})
	out := x.step(ask(2, 30, create("/x"), api.Op{Kind: api.OpDelete, Path: "/a/b"}))
	var l []api.Word
	for _, n := range []api.Note{{Session: 1, Kind: 1, Path: "/x", What: api.NoteCreated, At: z(16, 3)}, {Session: 1, Kind: 2, Path: "/a", What: api.NoteKids, At: z(16, 3)}} {
		l = append(l, api.Word{Client: 2, Kind: api.TellNote, Note: n}, api.Word{Client: 1, Kind: api.TellNote, Note: n})
	}
	l = append(l, api.Word{Client: 2, Kind: api.TellDone, Xid: 30, Made: "/x", At: z(16, 3)})
	same(t, "notes ahead of the answer", []any{out.Words, x.s.Watches}, []any{l, []api.Watch{{Session: 1, Kind: 1, Path: "/a"}}})
	for n := range 60 {
		out = x.step(read(2, 40+n, api.ReadNode, fmt.Sprint("/w", n), true))
	}
	same(t, "too many watches", out.Words, []api.Word{{Client: 2, Kind: api.TellRead, Xid: 99, Err: api.ErrFull, At: z(16, 3)}})
	out = x.step(read(2, 100, api.ReadKids, "/", true))
	same(t, "neither node nor names", out.Words, []api.Word{{Client: 2, Kind: api.TellRead, Xid: 100, Err: api.ErrFull, At: z(16, 3)}})
}

// P24.10
func TestTick(t *testing.T) {
	x := alone()
	x.step(hello(2, 0, 9))
	x.step(hello(1, 0, 10))
	x.step(ask(1, 11, api.Op{Kind: api.OpCreate, Path: "/own", Owned: true}))
	for n := 1; n < 25; n++ {
		x.step(word(api.Word{Client: 2, Kind: api.SayBeat}))
		out := x.step(api.Event{Kind: api.AtTick})
		if n < 24 {
			same(t, "a tick", []any{x.s.Seen, len(x.s.Touched), len(out.Made)}, []any{[]api.Seen{{Session: 1, Left: 23}, {Session: 2, Left: 24 - n}}, 0, 0})
			continue
		}
		same(t, "over", []any{out.Words, x.s.State.Sessions, len(x.s.State.Nodes), out.Made[0].Xid}, []any{[]api.Word{{Client: 1, Kind: api.TellNo, Err: api.ErrSession}}, []int{1}, 1, 0})
	}
	for range 23 {
		x.step(api.Event{Kind: api.AtTick})
	}
	x.step(hello(3, 0, 12))
	x.s.Touched = nil
	x.s.Seen = []api.Seen{{Session: 1, Left: 1}, {Session: 3, Left: 1}}
	x.s.Disk.Cap = disk.Used(x.s.Disk)
	out := x.step(api.Event{Kind: api.AtTick})
	same(t, "it falls at the first", []any{x.s.Up, len(out.Made)}, []any{false, 1})
}

// net is servers between which all messages come.
type net struct {
	s    []api.Server
	mail []api.Msg
	out  []api.Out
}

func newNet(conf string, n int) *net {
	x := &net{out: make([]api.Out, n)}
	for id := range n {
		s, _ := New(id, parse(conf), 100000)
		x.s = append(x.s, s)
	}
	for id := range n {
		x.step(id, api.Event{Kind: api.AtStart})
	}
	return x
}

func (x *net) step(id int, e api.Event) api.Out {
	e.Word.Server = id
	s, out := Step(x.s[id], e)
	x.s[id] = s
	x.mail = append(x.mail, out.Msgs...)
	o := &x.out[id]
	o.Words, o.Done, o.Jump, o.Made = append(o.Words, out.Words...), append(o.Done, out.Done...), append(o.Jump, out.Jump...), append(o.Made, out.Made...)
	return out
}

func (x *net) all() {
	for len(x.mail) > 0 {
		m := x.mail[0]
		x.mail = x.mail[1:]
		x.step(m.To, api.Event{Kind: api.AtMsg, Msg: m})
	}
}

func (x *net) rounds(n int) {
	for range n {
		x.all()
		for id := range x.s {
			x.step(id, api.Event{Kind: api.AtTick})
		}
	}
	x.all()
}

// words: what was said to the clients of a server since it was asked last.
func (x *net) words(id int) []api.Word {
	l := x.out[id].Words
	x.out[id].Words = nil
	return l
}

// P24.5, P24.7
func TestLearner(t *testing.T) {
	x := newNet(three, 4)
	x.rounds(3)
	for id := range 4 {
		same(t, "Serves", Serves(x.s[id]), true)
	}
	_, full := lead.Place(x.s[2].Peer)
	same(t, "2 leads", full, true)
	out := x.step(3, hello(1, 0, 9))
	same(t, "a request goes its way", []any{out.Msgs, len(out.Words), x.s[3].Waits, x.s[3].Conns}, []any{[]api.Msg{{From: 3, To: 2, Kind: api.MsgAsk, Epoch: 2, Ask: api.Request{Kind: api.ReqOpen, Xid: 9}}}, 0, []api.Wait{{Client: 1, Xid: 9}}, []api.Conn{{Client: 1, Xid: 9}}})
	x.step(3, ask(1, 8, create("/early")))
	x.all()
	same(t, "TellOpen", []any{x.words(3), len(x.s[3].Waits)}, []any{[]api.Word{{Client: 1, Server: 3, Kind: api.TellOpen, Session: 1, At: z(2, 1)}}, 0})
	x.step(3, ask(1, 10, create("/a")))
	x.all()
	same(t, "TellDone", x.words(3), []api.Word{{Client: 1, Server: 3, Kind: api.TellDone, Xid: 10, Made: "/a", At: z(2, 2)}})
	for id := range 4 {
		same(t, "Done", []any{len(x.out[id].Done), x.out[id].Done[1].At, len(x.out[id].Made)}, []any{2, z(2, 2), len(x.out[2].Made) * (id / 2 % 2) * (1 - id%2)})
	}
	x.step(3, api.Event{Kind: api.AtWord, Word: api.Word{Client: 1, Kind: api.SayBeat}})
	same(t, "touched", []any{x.s[3].Touched, len(x.s[2].Seen)}, []any{[]int{1}, 0})
	x.rounds(1)
	same(t, "told with MsgPong", []any{len(x.s[3].Touched), x.s[2].Seen}, []any{0, []api.Seen{{Session: 1, Left: 24}}})
	x.s[2].Seen[0].Left = 3
	x.step(2, api.Event{Kind: api.AtMsg, Msg: api.Msg{From: 3, To: 2, Kind: api.MsgPong, Epoch: 2, Touched: []int{1, 7}}})
	same(t, "MsgPong", x.s[2].Seen, []api.Seen{{Session: 1, Left: 24}})
	for i, m := range []api.Msg{{From: 3, To: 1, Epoch: 2}, {From: 3, To: 2, Epoch: 3}} {
		m.Kind, m.Ask = api.MsgAsk, api.Request{Kind: api.ReqOpen, Xid: 5}
		out = x.step(2, api.Event{Kind: api.AtMsg, Msg: m})
		same(t, fmt.Sprint("MsgAsk that is not for it ", i), out, api.Out{})
		m.Kind, m.Touched = api.MsgPong, []int{1}
		x.s[2].Seen[0].Left = 3
		x.step(2, api.Event{Kind: api.AtMsg, Msg: m})
		same(t, "nor a MsgPong", x.s[2].Seen, []api.Seen{{Session: 1, Left: 3}})
	}
	out = x.step(1, api.Event{Kind: api.AtMsg, Msg: api.Msg{From: 3, To: 1, Epoch: 2, Kind: api.MsgAsk, Ask: api.Request{Kind: api.ReqOpen, Xid: 5}}})
	same(t, "MsgAsk to one that learns", out, api.Out{})
}

// P24.5: answers of one that asked by two numbers, and of those who are gone.
func TestAnswers(t *testing.T) {
	x := newNet(three, 4)
	x.rounds(3)
	x.step(1, hello(0, 0, 9))
	x.step(1, hello(3, 0, 9))
	x.step(1, hello(1, 0, 7))
	x.s[1].Waits = append(x.s[1].Waits, api.Wait{Client: 1, Xid: 9}, api.Wait{Client: 2, Xid: 9})
	x.all()
	same(t, "in the order in which they asked", x.words(1), []api.Word{
		{Client: 0, Server: 1, Kind: api.TellOpen, Session: 1, At: z(2, 1)}, {Client: 3, Server: 1, Kind: api.TellOpen, Session: 1, At: z(2, 1)}, {Client: 1, Server: 1, Kind: api.TellDone, Xid: 9, At: z(2, 1)},
		{Client: 1, Server: 1, Kind: api.TellOpen, Session: 3, At: z(2, 3)}})
	same(t, "laid behind all others", []any{x.s[1].Conns, x.s[1].Touched, len(x.s[1].Waits)}, []any{[]api.Conn{{Client: 0, Session: 1, Xid: 9}, {Client: 3, Session: 1, Xid: 9}, {Client: 1, Session: 3, Xid: 7}}, []int{1, 3}, 0})
}

// P24.5: an image from the leader.
func TestJump(t *testing.T) {
	x := newNet(three, 4)
	x.rounds(3)
	x.step(2, hello(0, 0, 9))
	x.all()
	x.step(3, hello(1, 1, 30))
	x.step(3, read(1, 31, api.ReadNode, "/n20", true))
	x.words(3)
	x.step(3, api.Event{Kind: api.AtLost, Node: 2})
	same(t, "P24.6: it looks", []any{x.words(3), len(x.s[3].Conns), len(x.s[3].Watches), len(x.s[3].Touched)}, []any{[]api.Word{{Client: 1, Server: 3, Kind: api.TellNo, Err: api.ErrLeader}}, 0, 0, 0})
	x.s[3].Watches = []api.Watch{{Session: 1, Kind: api.WatchData, Path: "/n20"}}
	x.s[3].Conns = []api.Conn{{Client: 1, Session: 1}}
	x.step(2, api.Event{Kind: api.AtLost, Node: 3})
	x.mail = nil
	for n := range 30 {
		x.step(2, ask(0, 10+n, create(fmt.Sprint("/n", n))))
		x.all()
	}
	x.out[3] = api.Out{}
	x.rounds(3)
	same(t, "it has all", []any{state.Same(x.s[3].State, x.s[2].State), len(x.out[3].Jump), x.out[3].Jump[0] == history.Base(x.s[2].Peer.History)}, []any{true, 1, true})
	same(t, "the watches are told", x.words(3)[0].Note.What, api.NoteCreated)
}

// P24.6
func TestDismiss(t *testing.T) {
	x := newNet(three, 4)
	x.rounds(3)
	for id := range 4 {
		x.step(id, hello(id, 0, 9+id))
	}
	x.all()
	for id := range 4 {
		x.words(id)
	}
	x.step(2, read(2, 50, api.ReadNode, "/", true))
	x.words(2)
	for range 9 {
		x.step(2, api.Event{Kind: api.AtTick})
	}
	p := x.s[2]
	same(t, "a leader gives up", []any{p.Peer.Mode, x.words(2), len(p.Conns) + len(p.Waits) + len(p.Watches) + len(p.Touched) + len(p.Seen)}, []any{api.Looking, []api.Word{{Client: 2, Server: 2, Kind: api.TellNo, Err: api.ErrLeader}}, 0})
	x.s[2].Seen = []api.Seen{{Session: 1}}
	x.step(2, api.Event{Kind: api.AtLost, Node: 9})
	same(t, "Seen of one that does not lead", len(x.s[2].Seen), 0)
}

// P24.11
func TestSame(t *testing.T) {
	x := newNet(three, 4)
	x.rounds(3)
	x.step(2, hello(0, 0, 9))
	x.step(2, read(0, 10, api.ReadNode, "/", true))
	x.all()
	base := func() api.Server {
		s, _ := Step(x.s[2], api.Event{})
		s.Watches, s.Waits, s.Seen = []api.Watch{{Session: 1}}, []api.Wait{{Xid: 1}}, []api.Seen{{Left: 1}}
		return s
	}
	same(t, "Same", Same(base(), base()), true)
	for i, turn := range []func(*api.Server){
		func(s *api.Server) { s.Id = 9 }, func(s *api.Server) { s.Up = false }, func(s *api.Server) { s.Disk.Cap = 9 }, func(s *api.Server) { s.Saved.Gen = 9 }, func(s *api.Server) { s.State.Next = 9 }, func(s *api.Server) { s.Watches[0].Kind = 9 }, func(s *api.Server) { s.Conns[0].Xid = 99 },
		func(s *api.Server) { s.Waits[0].Xid = 9 }, func(s *api.Server) { s.Seen[0].Left = 9 }, func(s *api.Server) { s.Touched[0] = 9 }, func(s *api.Server) { s.Peer.Id = 9 }, func(s *api.Server) { s.Peer.Accepted = 9 }, func(s *api.Server) { s.Peer.Current = 9 },
		func(s *api.Server) { s.Peer.History.Log = nil }, func(s *api.Server) { s.Peer.Done.N = 9 }, func(s *api.Server) { s.Peer.Mode = 9 }, func(s *api.Server) { s.Peer.Seek.Round = 9 }, func(s *api.Server) { s.Peer.Seek.Id = 9 }, func(s *api.Server) { s.Peer.Seek.Own.Cand = 9 }, func(s *api.Server) { s.Peer.Seek.Now.Cand = 9 },
		func(s *api.Server) { s.Peer.Seek.Heard[0].Cand = 9 }, func(s *api.Server) { s.Peer.Leader = 9 }, func(s *api.Server) { s.Peer.Phase = 9 }, func(s *api.Server) { s.Peer.Wait = 9 }, func(s *api.Server) { s.Peer.Epoch = 9 }, func(s *api.Server) { s.Peer.Learners[0].Id = 9 }, func(s *api.Server) { s.Peer.Learners[0].Phase = 9 },
		func(s *api.Server) { s.Peer.Learners[0].Accepted = 9 }, func(s *api.Server) { s.Peer.Learners[0].Current = 9 }, func(s *api.Server) { s.Peer.Learners[0].Marks = nil }, func(s *api.Server) { s.Peer.Learners[0].Acked.N = 9 }, func(s *api.Server) { s.Peer.Learners[0].Quiet = 9 },
	} {
		s := base()
		turn(&s)
		same(t, fmt.Sprint("Same of another ", i), []bool{Same(s, base()), Same(base(), s)}, []bool{false, false})
	}
}
