package prep

import (
	"fmt"
	"math/rand"
	"strings"
	"testing"

	"witan/api"
	"witan/state"
	"witan/znode"
)

func same(t *testing.T, what string, got, want any) {
	t.Helper()
	if a, b := fmt.Sprint(got), fmt.Sprint(want); a != b {
		t.Errorf("%s: %s, want %s", what, a, b)
	}
}

var at = api.Zxid{Epoch: 16, N: 5}

func conf() api.Config {
	return api.Config{At: api.Zxid{Epoch: 1, N: 1}, Kind: 1, Members: []api.Member{{Id: 0, Role: 1, Weight: 1}}}
}

// base: sessions 1 and 2; /a with a child /a/b, /own of session 2.
func base() api.State {
	s := state.Start(conf())
	s.Sessions, s.Next = []int{1, 2}, 3
	s.Nodes = []api.Znode{{Path: "/", Kids: 2}, {Path: "/a", Data: "x", Version: 4, Kids: 1}, {Path: "/a/b"}, {Path: "/own", Owner: 2}}
	return s
}

func ask(l ...api.Op) api.Request {
	return api.Request{Kind: api.ReqOps, Session: 1, Xid: 9, Ops: l}
}

func put(z api.Znode) api.Part { return api.Part{Kind: api.PartPut, Node: z} }
func less(p string) api.Part   { return api.Part{Kind: api.PartGone, Node: api.Znode{Path: p}} }

// P9.1
func TestRight(t *testing.T) {
	same(t, "Right", []bool{Right(base()), Right(state.Start(conf()))}, []bool{true, true})
	for i, spoil := range []func(*api.State){
		func(s *api.State) { s.Nodes = nil }, func(s *api.State) { s.Config.Kind = 0 }, func(s *api.State) { s.Next = 2 }, func(s *api.State) { s.Next = api.MaxCount + 1 },
		func(s *api.State) { s.Sessions[0] = 0 }, func(s *api.State) { s.Sessions[1] = 1 }, func(s *api.State) { s.Sessions[1] = 3 }, func(s *api.State) { s.Sessions[0], s.Sessions[1] = 2, 1 },
		func(s *api.State) { s.Sessions, s.Next = nil, 0 },
	} {
		s := base()
		spoil(&s)
		same(t, fmt.Sprint("Right of a wrong one ", i), Right(s), false)
	}
	s := base()
	s.Sessions, s.Next = nil, api.MaxCount
	for n := range 20 {
		s.Sessions = append(s.Sessions, n+1)
	}
	same(t, "twenty sessions", Right(s), true)
	s.Sessions = append(s.Sessions, 21)
	same(t, "twenty-one sessions", Right(s), false)
}

// P9.2
func TestOpen(t *testing.T) {
	r := api.Request{Kind: api.ReqOpen, Session: 77, Xid: 9}
	same(t, "open", Make(base(), r, at), api.Txn{At: at, Session: 3, Xid: 9, Parts: []api.Part{{Kind: api.PartOpen, Session: 3}}})
	full := api.Txn{At: at, Session: 77, Xid: 9, Err: api.ErrFull}
	s := base()
	s.Next = api.MaxCount
	same(t, "no number left", Make(s, r, at), full)
	s = base()
	for s.Next = 1; s.Next <= 20; s.Next++ {
		s.Sessions = append(s.Sessions[:s.Next-1:s.Next-1], s.Next)
	}
	same(t, "twenty sessions", Make(s, r, at), full)
}

func TestRefused(t *testing.T) {
	nine := make([]api.Op, 9)
	for i, c := range []struct {
		r api.Request
		e api.Errno
	}{
		{api.Request{Kind: 0, Session: 1}, api.ErrArg}, {api.Request{Kind: 5, Session: 77}, api.ErrArg},
		{api.Request{Kind: api.ReqOps, Session: 3}, api.ErrSession}, {api.Request{Kind: api.ReqClose}, api.ErrSession}, {api.Request{Kind: api.ReqConfig, Session: -1}, api.ErrSession},
		{ask(), api.ErrArg}, {ask(nine...), api.ErrArg},
		{api.Request{Kind: api.ReqConfig, Session: 1, Want: api.Zxid{Epoch: 1, N: 2}}, api.ErrVersion},
		{api.Request{Kind: api.ReqConfig, Session: 1, Want: conf().At, Delta: api.Delta{Drop: []int{3}}}, api.ErrNone},
		{api.Request{Kind: api.ReqConfig, Session: 1, Want: conf().At, Delta: api.Delta{Drop: []int{0}}}, api.ErrQuorum},
	} {
		c.r.Xid = 9
		same(t, fmt.Sprint("refused ", i), Make(base(), c.r, at), api.Txn{At: at, Session: c.r.Session, Xid: 9, Err: c.e})
	}
}

func TestConfig(t *testing.T) {
	r := api.Request{Kind: api.ReqConfig, Session: 1, Xid: 9, Want: conf().At, Delta: api.Delta{Put: []api.Member{{Id: 4, Role: 2}}}}
	c := conf()
	c.At, c.Members = at, append(c.Members, api.Member{Id: 4, Role: 2})
	same(t, "a config", Make(base(), r, at), api.Txn{At: at, Session: 1, Xid: 9, Parts: []api.Part{{Kind: api.PartConfig, Config: c}}})
}

// P9.3
func TestOps(t *testing.T) {
	for i, c := range []struct {
		ops   []api.Op
		made  string
		parts []api.Part
	}{
		{[]api.Op{{Kind: api.OpCreate, Path: "/c", Data: "y", Version: 7}}, "/c", []api.Part{put(api.Znode{Path: "/", Kids: 3}), put(api.Znode{Path: "/c", Data: "y"})}},
		{[]api.Op{{Kind: api.OpCreate, Path: "/c", Owned: true}}, "/c", []api.Part{put(api.Znode{Path: "/", Kids: 3}), put(api.Znode{Path: "/c", Owner: 1})}},
		{[]api.Op{{Kind: api.OpCreate, Path: "/a/q-", Seq: true}}, "/a/q-0000000001", []api.Part{put(api.Znode{Path: "/a", Data: "x", Version: 4, Kids: 2}), put(api.Znode{Path: "/a/q-0000000001"})}},
		{[]api.Op{{Kind: api.OpCreate, Path: "/", Seq: true}}, "/0000000002", []api.Part{put(api.Znode{Path: "/", Kids: 3}), put(api.Znode{Path: "/0000000002"})}},
		{[]api.Op{{Kind: api.OpSet, Path: "/a", Data: "z", Version: 4}}, "", []api.Part{put(api.Znode{Path: "/a", Data: "z", Version: 5, Kids: 1})}},
		{[]api.Op{{Kind: api.OpSet, Path: "/", Data: "z", Version: -1}}, "", []api.Part{put(api.Znode{Path: "/", Data: "z", Version: 1, Kids: 2})}},
		{[]api.Op{{Kind: api.OpCheck, Path: "/a", Version: 4, Data: strings.Repeat("x", 129)}}, "", nil},
		{[]api.Op{{Kind: api.OpDelete, Path: "/a/b"}}, "", []api.Part{less("/a/b"), put(api.Znode{Path: "/a", Data: "x", Version: 4, Kids: 2})}},
		{[]api.Op{{Kind: api.OpDelete, Path: "/own", Version: -1}}, "", []api.Part{less("/own"), put(api.Znode{Path: "/", Kids: 3})}},
		{[]api.Op{{Kind: api.OpCheck, Path: "/"}, {Kind: api.OpCreate, Path: "/c"}, {Kind: api.OpCreate, Path: "/c/d"}, {Kind: api.OpDelete, Path: "/c/d"}}, "/c", []api.Part{
			put(api.Znode{Path: "/", Kids: 3}), put(api.Znode{Path: "/c"}), put(api.Znode{Path: "/c", Kids: 1}), put(api.Znode{Path: "/c/d"}), less("/c/d"), put(api.Znode{Path: "/c", Kids: 2})}},
	} {
		same(t, fmt.Sprint("ops ", i), Make(base(), ask(c.ops...), at), api.Txn{At: at, Session: 1, Xid: 9, Made: c.made, Parts: c.parts})
	}
}

func TestOpErrors(t *testing.T) {
	long, big := strings.Repeat("x", 129), "/"+strings.Repeat("x", 64)
	full := base()
	for i := len(full.Nodes); i < api.MaxNodes; i++ {
		full.Nodes = append(full.Nodes, api.Znode{Path: fmt.Sprintf("/z%02d", i)})
	}
	worn := base()
	for i := range worn.Nodes {
		worn.Nodes[i].Version, worn.Nodes[i].Kids = api.MaxCount, api.MaxCount
	}
	for i, c := range []struct {
		s api.State
		o api.Op
		e api.Errno
	}{
		{base(), api.Op{Kind: api.OpCreate, Path: "bad", Data: long}, api.ErrLong}, {base(), api.Op{Kind: api.OpCreate, Path: "bad"}, api.ErrArg}, {base(), api.Op{Kind: api.OpCreate, Path: big}, api.ErrLong},
		{base(), api.Op{Kind: api.OpCreate, Path: "/x/", Seq: false}, api.ErrArg}, {base(), api.Op{Kind: api.OpCreate, Path: "/1234567", Seq: true}, api.ErrArg}, {base(), api.Op{Kind: api.OpCreate, Path: big, Seq: true}, api.ErrLong},
		{base(), api.Op{Kind: api.OpCreate, Path: "/"}, api.ErrThere}, {base(), api.Op{Kind: api.OpCreate, Path: "/x/y"}, api.ErrNone}, {base(), api.Op{Kind: api.OpCreate, Path: "/own/y"}, api.ErrOwner},
		{base(), api.Op{Kind: api.OpCreate, Path: "/x/", Seq: true}, api.ErrNone}, {base(), api.Op{Kind: api.OpCreate, Path: "/a"}, api.ErrThere}, {full, api.Op{Kind: api.OpCreate, Path: "/a"}, api.ErrThere}, {full, api.Op{Kind: api.OpCreate, Path: "/c"}, api.ErrFull},
		{worn, api.Op{Kind: api.OpCreate, Path: "/c"}, api.ErrLong}, {worn, api.Op{Kind: api.OpCreate, Path: "/q", Seq: true}, api.ErrArg},
		{base(), api.Op{Kind: api.OpSet, Path: "bad", Data: long}, api.ErrLong}, {base(), api.Op{Kind: api.OpSet, Path: "bad"}, api.ErrArg}, {base(), api.Op{Kind: api.OpSet, Path: "/x"}, api.ErrNone},
		{base(), api.Op{Kind: api.OpSet, Path: "/a"}, api.ErrVersion}, {base(), api.Op{Kind: api.OpSet, Path: "/a", Version: -2}, api.ErrVersion}, {worn, api.Op{Kind: api.OpSet, Path: "/a", Version: -1}, api.ErrLong},
		{base(), api.Op{Kind: api.OpDelete, Path: big, Data: long}, api.ErrLong}, {base(), api.Op{Kind: api.OpDelete, Path: "bad", Data: long}, api.ErrArg}, {base(), api.Op{Kind: api.OpDelete, Path: "/x"}, api.ErrNone}, {base(), api.Op{Kind: api.OpDelete, Path: "/a", Version: 3}, api.ErrVersion},
		{base(), api.Op{Kind: api.OpDelete, Path: "/"}, api.ErrArg}, {base(), api.Op{Kind: api.OpDelete, Path: "/a", Version: 4}, api.ErrChildren}, {worn, api.Op{Kind: api.OpDelete, Path: "/own", Version: -1}, api.ErrLong},
		{base(), api.Op{Kind: api.OpCheck, Path: "/a", Version: 3}, api.ErrVersion}, {base(), api.Op{Kind: api.OpCheck, Path: "/x"}, api.ErrNone},
		{base(), api.Op{Kind: 0, Path: "/a", Data: long}, api.ErrArg}, {base(), api.Op{Kind: 5, Path: "/a"}, api.ErrArg},
	} {
		ok := api.Op{Kind: api.OpCheck, Path: "/a", Version: -1}
		same(t, fmt.Sprint("wrong op ", i), Make(c.s, ask(ok, c.o, ok), at), api.Txn{At: at, Session: 1, Xid: 9, Err: c.e, Bad: 1})
	}
}

// P9.4, P9.8
func TestClose(t *testing.T) {
	s := base()
	s.Nodes = []api.Znode{{Path: "/", Kids: 5}, {Path: "/a", Kids: 1}, {Path: "/a/b", Owner: 2}, {Path: "/c", Owner: 1}, {Path: "/own", Owner: 2}, {Path: "/own2", Owner: 2}}
	r := api.Request{Kind: api.ReqClose, Session: 2, Xid: 9, Ops: []api.Op{{}}}
	u := Make(s, r, at)
	same(t, "close", u, api.Txn{At: at, Session: 2, Xid: 9, Parts: []api.Part{less("/a/b"), put(api.Znode{Path: "/a", Kids: 2}), less("/own"), put(api.Znode{Path: "/", Kids: 6}),
		less("/own2"), put(api.Znode{Path: "/", Kids: 7}), {Kind: api.PartClose, Session: 2}}})
	now := state.Apply(s, u)
	same(t, "what is left", []any{now.Nodes, now.Sessions}, []any{[]api.Znode{{Path: "/", Kids: 7}, {Path: "/a", Kids: 2}, {Path: "/c", Owner: 1}}, []int{1}})
	s.Nodes[0].Kids = api.MaxCount - 1
	same(t, "too many changes", Make(s, r, at), api.Txn{At: at, Session: 2, Xid: 9, Err: api.ErrLong})
}

func some(r *rand.Rand) api.Op {
	o := api.Op{Kind: 1 + r.Intn(4), Path: "/" + string(rune('a'+r.Intn(3))), Data: string(rune('a' + r.Intn(3))), Version: r.Intn(3) - 1, Owned: r.Intn(4) == 0, Seq: r.Intn(4) == 0}
	if r.Intn(3) == 0 {
		o.Path += "/" + string(rune('a'+r.Intn(3)))
	}
	return o
}

// P9.5, P9.6
func TestTogether(t *testing.T) {
	r := rand.New(rand.NewSource(1))
	for range 300 {
		s := state.Start(conf())
		for n := range 40 {
			place := api.Zxid{Epoch: 16, N: n + 1}
			q := api.Request{Kind: 1 + r.Intn(4), Session: 1 + r.Intn(4), Want: s.Config.At, Delta: api.Delta{Put: []api.Member{{Id: r.Intn(4), Role: 1 + r.Intn(2)}}}}
			for range 1 + r.Intn(3) {
				q.Ops = append(q.Ops, some(r))
			}
			u := Make(s, q, place)
			if u.Err != api.OK && (len(u.Parts) > 0 || u.Made != "") {
				t.Fatalf("parts beside an error: %v", u)
			}
			now := state.Apply(s, u)
			if !Right(now) {
				t.Fatalf("behind %v no right state: %v", u, now)
			}
			if q.Kind == api.ReqOps && u.Err != api.ErrSession {
				oneByOne(t, s, now, q, u)
			}
			s = now
		}
	}
}

func oneByOne(t *testing.T, s, now api.State, q api.Request, u api.Txn) {
	for i, o := range q.Ops {
		single := q
		single.Ops = []api.Op{o}
		v := Make(s, single, u.At)
		if v.Err != api.OK {
			same(t, "the first that is wrong", []any{u.Err, u.Bad, len(u.Parts)}, []any{v.Err, i, 0})
			return
		}
		s = state.Apply(s, v)
	}
	if u.Err != api.OK || !state.Same(s, now) {
		t.Fatalf("at once %v, one by one %v", now, s)
	}
}

// P9.7
func TestSeq(t *testing.T) {
	s := state.Start(conf())
	s.Sessions, s.Next = []int{1}, 2
	last := ""
	for n := range 30 {
		u := Make(s, ask(api.Op{Kind: api.OpCreate, Path: "/q-", Seq: true}), api.Zxid{Epoch: 16, N: n + 1})
		if u.Made <= last {
			t.Fatalf("%s is made behind %s", u.Made, last)
		}
		last = u.Made
		s = state.Apply(s, u)
		if n%3 == 0 {
			s = state.Apply(s, Make(s, ask(api.Op{Kind: api.OpDelete, Path: u.Made}), api.Zxid{Epoch: 17, N: n}))
		}
	}
	same(t, "nodes", len(znode.Children(s.Nodes, "/")), 20)
}
