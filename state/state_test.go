package state

import (
	"fmt"
	"math/rand"
	"strings"
	"testing"

	"witan/api"
	"witan/znode"
)

func same(t *testing.T, what string, got, want any) {
	t.Helper()
	if a, b := fmt.Sprint(got), fmt.Sprint(want); a != b {
		t.Errorf("%s: %s, want %s", what, a, b)
	}
}

func one() api.Config {
	return api.Config{Kind: 1, Members: []api.Member{{Id: 0, Role: 1, Weight: 1}}}
}

func txn(n int, l ...api.Part) api.Txn {
	return api.Txn{At: api.Zxid{Epoch: 16, N: n}, Parts: l}
}

func put(p, data string) api.Part {
	return api.Part{Kind: api.PartPut, Node: api.Znode{Path: p, Data: data}}
}

// P8.1
func TestStart(t *testing.T) {
	same(t, "Start", Start(one()), api.State{Nodes: znode.Root(), Next: 1, Config: one()})
	c := one()
	s := Start(c)
	c.Members[0].Id = 7
	same(t, "the config's own memory", s.Config, one())
}

// P8.2
func TestApply(t *testing.T) {
	s := Apply(Start(one()), txn(1, put("/a", "x"), api.Part{Kind: api.PartOpen, Session: 3}))
	same(t, "behind one", s, api.State{Nodes: []api.Znode{{Path: "/"}, {Path: "/a", Data: "x"}}, Sessions: []int{3}, Next: 4, Config: one(), At: api.Zxid{Epoch: 16, N: 1}})
	s = Apply(s, txn(2, api.Part{Kind: api.PartOpen, Session: 1}, api.Part{Kind: api.PartOpen, Session: 3}, api.Part{Kind: api.PartOpen, Session: 2}))
	same(t, "sessions", []any{s.Sessions, s.Next}, []any{[]int{1, 2, 3}, 4})
	s = Apply(s, txn(3, api.Part{Kind: api.PartClose, Session: 2}, api.Part{Kind: api.PartClose, Session: 9}, api.Part{Kind: api.PartGone, Node: api.Znode{Path: "/a", Data: "other"}}))
	same(t, "closed and gone", []any{s.Sessions, s.Nodes}, []any{[]int{1, 3}, znode.Root()})
	s = Apply(s, txn(4, api.Part{Kind: api.PartOpen}, api.Part{Kind: api.PartOpen, Session: -1}, api.Part{Kind: api.PartOpen, Session: api.MaxCount + 1}))
	same(t, "numbers that are no sessions", []any{s.Sessions, s.Next}, []any{[]int{1, 3}, 4})
	s = Apply(s, txn(5, api.Part{Kind: api.PartOpen, Session: api.MaxCount}))
	same(t, "the last session", []any{s.Sessions, s.Next}, []any{[]int{1, 3, api.MaxCount}, api.MaxCount + 1})
	other := api.Config{Kind: 2, At: api.Zxid{Epoch: 1}}
	s = Apply(s, txn(6, api.Part{Kind: api.PartConfig, Config: other}, api.Part{Kind: 6, Node: api.Znode{Path: "/z"}, Session: 5}, api.Part{Node: api.Znode{Path: "/z"}}))
	same(t, "a config, and parts that do nothing", []any{s.Config, s.Nodes, s.At}, []any{other, znode.Root(), api.Zxid{Epoch: 16, N: 6}})
	back := Apply(s, api.Txn{At: api.Zxid{Epoch: 3, N: 99}, Session: 4, Xid: 5, Err: 6, Bad: 7, Made: "/m"})
	same(t, "an earlier one without parts", back, s)
	l := []api.Txn{txn(1, put("/a", "1")), txn(2, put("/a", "2"), put("/b", ""))}
	same(t, "All", All(Start(one()), l), Apply(Apply(Start(one()), l[0]), l[1]))
	same(t, "All of none", All(s, nil), s)
}

// P8.2: of sessions that do not rise, or stand more than once, too.
func TestOpenOnce(t *testing.T) {
	for _, c := range []struct {
		was, open, behind []int
	}{
		{[]int{2, 2}, []int{2}, []int{2}},
		{[]int{5, 2}, []int{2}, []int{2, 5}},
		{[]int{1, 2, 2, 3, 2}, []int{2}, []int{1, 2, 3}},
		{[]int{9, 9, 4}, []int{5}, []int{5, 9, 9, 4}},
		{[]int{1, 7, 3, 7, 2}, []int{7, 2}, []int{1, 2, 7, 3}},
		{[]int{4, 4}, []int{0, -4, api.MaxCount + 1}, []int{4, 4}},
		{nil, []int{2}, []int{2}},
	} {
		s := api.State{Sessions: append([]int{}, c.was...), Next: 3}
		var l []api.Part
		for _, id := range c.open {
			l = append(l, api.Part{Kind: api.PartOpen, Session: id})
		}
		same(t, fmt.Sprint(c.was, " behind PartOpen of ", c.open), Apply(s, txn(1, l...)).Sessions, c.behind)
		same(t, "handed in", s.Sessions, c.was)
	}
	s := api.State{Sessions: []int{2, 5, 2}}
	same(t, "PartClose", Apply(s, txn(1, api.Part{Kind: api.PartClose, Session: 2})).Sessions, []int{5})
	same(t, "handed in", s.Sessions, []int{2, 5, 2})
}

// P8.3
func TestGet(t *testing.T) {
	s := All(Start(one()), []api.Txn{txn(1, put("/a", "x"), put("/a/b", ""), put("/a/c", ""))})
	for _, c := range []struct {
		p string
		z api.Znode
		k []string
		e api.Errno
	}{
		{"/a", api.Znode{Path: "/a", Data: "x"}, []string{"b", "c"}, api.OK}, {"/", api.Znode{Path: "/"}, []string{"a"}, api.OK}, {"/a/b", api.Znode{Path: "/a/b"}, nil, api.OK},
		{"/x", api.Znode{}, nil, api.ErrNone}, {"x", api.Znode{}, nil, api.ErrArg}, {"/" + strings.Repeat("x", 64), api.Znode{}, nil, api.ErrLong},
	} {
		z, e := Get(s, c.p)
		k, f := Kids(s, c.p)
		same(t, "Get and Kids of "+c.p, []any{z, e, k, f}, []any{c.z, c.e, c.k, c.e})
	}
}

// P8.4
func TestSame(t *testing.T) {
	s := func() api.State {
		return Apply(Start(one()), txn(1, put("/a", "x"), api.Part{Kind: api.PartOpen, Session: 3}))
	}
	same(t, "Same", Same(s(), s()), true)
	for i, turn := range []func(*api.State){func(s *api.State) { s.Nodes[1].Kids = 1 }, func(s *api.State) { s.Nodes = s.Nodes[:1] }, func(s *api.State) { s.Sessions[0] = 1 }, func(s *api.State) { s.Sessions = nil },
		func(s *api.State) { s.Next = 9 }, func(s *api.State) { s.At.N = 9 }, func(s *api.State) { s.Config.Kind = 2 }, func(s *api.State) { s.Config.Members[0].Weight = 2 }} {
		x := s()
		turn(&x)
		same(t, fmt.Sprint("Same of another ", i), []bool{Same(x, s()), Same(s(), x)}, []bool{false, false})
	}
	u := func() api.Txn {
		return txn(1, put("/a", "x"), api.Part{Kind: api.PartConfig, Config: one()})
	}
	same(t, "SameTxn", SameTxn(u(), u()), true)
	for i, turn := range []func(*api.Txn){func(t *api.Txn) { t.At.N = 3 }, func(t *api.Txn) { t.Session = 1 }, func(t *api.Txn) { t.Xid = 1 }, func(t *api.Txn) { t.Err = 1 }, func(t *api.Txn) { t.Bad = 1 }, func(t *api.Txn) { t.Made = "/" },
		func(t *api.Txn) { t.Parts = t.Parts[:1] }, func(t *api.Txn) { t.Parts[0].Kind = 2 }, func(t *api.Txn) { t.Parts[0].Node.Data = "" }, func(t *api.Txn) { t.Parts[0].Session = 1 }, func(t *api.Txn) { t.Parts[1].Config.Members[0].Id = 1 }} {
		x := u()
		turn(&x)
		same(t, fmt.Sprint("SameTxn of another ", i), []bool{SameTxn(x, u()), SameTxn(u(), x)}, []bool{false, false})
	}
}

func some(r *rand.Rand, n int) api.Txn {
	u := txn(n)
	for range r.Intn(4) {
		p := api.Part{Kind: 1 + r.Intn(5), Session: r.Intn(6)}
		p.Node = api.Znode{Path: "/" + string(rune('a'+r.Intn(3))), Version: r.Intn(5)}
		p.Config = api.Config{Kind: r.Intn(4)}
		u.Parts = append(u.Parts, p)
	}
	return u
}

// P8.5, P8.6
func TestFuzzy(t *testing.T) {
	r := rand.New(rand.NewSource(1))
	for range 500 {
		var l []api.Txn
		for i := range 10 {
			l = append(l, some(r, i+1))
		}
		all := All(Start(one()), l)
		j := r.Intn(11)
		i := r.Intn(j + 1)
		ahead := All(Start(one()), l[:j])
		if got := All(ahead, l[i:]); !Same(got, all) {
			t.Fatalf("from the %d-th on behind %d of %v: %v, not %v", i, j, l, got, all)
		}
		if !Same(Apply(Apply(ahead, l[0]), l[0]), Apply(ahead, l[0])) {
			t.Fatalf("%v done twice", l[0])
		}
		empty := Apply(ahead, txn(99))
		empty.At = ahead.At
		if !Same(empty, ahead) {
			t.Fatalf("a transaction without parts makes %v of %v", empty, ahead)
		}
	}
}
