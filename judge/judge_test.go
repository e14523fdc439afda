package judge

import (
	"fmt"
	"math/rand"
	"testing"

	"witan/api"
)

func same(t *testing.T, what string, got, want any) {
	t.Helper()
	if a, b := fmt.Sprint(got), fmt.Sprint(want); a != b {
		t.Errorf("%s: %s, want %s", what, a, b)
	}
}

func z(epoch, n int) api.Zxid { return api.Zxid{Epoch: epoch, N: n} }

var conf = api.Config{Kind: 1, Members: []api.Member{{Id: 0, Role: 1}}}

// txn: it makes a node of its own number, and was asked by its own number.
func txn(epoch, n int) api.Txn {
	p := fmt.Sprint("/", epoch, ".", n)
	return api.Txn{At: z(epoch, n), Xid: 100*epoch + n, Made: p, Parts: []api.Part{{Kind: api.PartPut, Node: api.Znode{Path: p, Data: "d"}}}}
}

func done(node, epoch, n int) api.Fact {
	return api.Fact{Kind: api.FactDone, Node: node, Txn: txn(epoch, n)}
}

func made(node, epoch, n int) api.Fact {
	return api.Fact{Kind: api.FactMade, Node: node, Epoch: epoch, Txn: txn(epoch, n)}
}

func jump(node int, at api.Zxid) api.Fact { return api.Fact{Kind: api.FactJump, Node: node, At: at} }

func call(node, xid int) api.Fact { return api.Fact{Kind: api.FactCall, Node: node, Xid: xid} }

func told(node, epoch, n int) api.Fact {
	u := txn(epoch, n)
	return api.Fact{Kind: api.FactTold, Node: node, Xid: u.Xid, Word: api.Word{Kind: api.TellDone, At: u.At, Made: u.Made}}
}

func reads(node, xid, kind int, p string) api.Fact {
	return api.Fact{Kind: api.FactCall, Node: node, Xid: xid, Read: kind, Path: p}
}

func answer(node, xid int, at api.Zxid, w api.Word) api.Fact {
	w.Kind, w.At = api.TellRead, at
	return api.Fact{Kind: api.FactTold, Node: node, Xid: xid, Word: w}
}

func seen(node int, at api.Zxid) api.Fact {
	return api.Fact{Kind: api.FactSeen, Node: node, Word: api.Word{Note: api.Note{At: at}, At: z(99, 9)}}
}

// P27.1
func TestLog(t *testing.T) {
	l, ok := Log([]api.Fact{done(0, 2, 1), made(0, 5, 5), done(1, 1, 2), done(1, 2, 1), jump(3, z(4, 4)), done(0, 1, 9)})
	same(t, "Log", []any{l, ok}, []any{[]api.Txn{txn(1, 2), txn(1, 9), txn(2, 1)}, true})
	l, ok = Log(nil)
	same(t, "Log of none", []any{len(l), ok}, []any{0, true})
	other := done(1, 2, 1)
	other.Txn.Session = 5
	l, ok = Log([]api.Fact{done(0, 2, 1), other})
	same(t, "two unlike", []any{len(l), ok}, []any{0, false})
}

// P27.2, and the example
func TestChain(t *testing.T) {
	other := done(1, 2, 1)
	other.Txn.Session = 5
	for i, c := range []struct {
		l    []api.Fact
		want bool
	}{
		{nil, true}, {[]api.Fact{done(0, 1, 1), done(1, 1, 1), done(0, 1, 2), done(1, 1, 3)}, true}, {[]api.Fact{done(0, 1, 1), done(0, 1, 2), done(1, 1, 1), done(1, 1, 3), done(0, 1, 3)}, false},
		{[]api.Fact{done(0, 1, 1), done(0, 1, 1)}, false}, {[]api.Fact{done(0, 1, 2), done(0, 1, 1)}, false}, {[]api.Fact{done(0, 0, 0)}, false}, {[]api.Fact{jump(0, z(1, 1)), done(0, 1, 2), jump(0, z(1, 1)), done(0, 1, 2)}, true},
		{[]api.Fact{done(0, 1, 1), done(0, 1, 2), jump(1, z(1, 1)), done(1, 1, 2)}, true}, {[]api.Fact{done(0, 1, 1), done(0, 1, 2), jump(1, z(0, 9)), done(1, 1, 2)}, false}, {[]api.Fact{jump(0, z(1, 2)), done(0, 1, 2)}, false},
		{[]api.Fact{done(0, 2, 1), other}, false}, {[]api.Fact{done(0, 1, 1), made(0, 9, 9), done(0, 1, 2)}, true},
	} {
		same(t, fmt.Sprint("Chain ", i), Chain(c.l), c.want)
	}
}

// P27.3
func TestPrimary(t *testing.T) {
	wrong := made(0, 16, 1)
	wrong.Epoch = 32
	other := done(1, 16, 1)
	other.Txn.Xid = 5
	for i, c := range []struct {
		l    []api.Fact
		want bool
	}{
		{nil, true}, {[]api.Fact{made(0, 16, 1), made(1, 17, 1), made(0, 16, 2), done(3, 16, 1), done(3, 16, 2), done(3, 16, 1)}, true}, {[]api.Fact{made(0, 16, 2)}, false}, {[]api.Fact{made(0, 16, 1), made(0, 16, 1)}, false}, {[]api.Fact{made(0, 16, 1), made(0, 16, 3)}, false},
		{[]api.Fact{made(0, 16, 0)}, false}, {[]api.Fact{made(1, 16, 1)}, false}, {[]api.Fact{wrong}, false}, {[]api.Fact{done(0, 16, 1), made(0, 16, 1)}, false}, {[]api.Fact{made(0, 16, 1), other}, false}, {[]api.Fact{done(0, 16, 1)}, false}, {[]api.Fact{made(0, 0, 1)}, false},
	} {
		same(t, fmt.Sprint("Primary ", i), Primary(c.l), c.want)
	}
}

// asked: 16.1, asked by client 0 and told it; then a read of its node.
func asked() []api.Fact {
	return []api.Fact{call(0, 1601), made(0, 16, 1), done(0, 16, 1), told(0, 16, 1), reads(1, 7, api.ReadNode, "/16.1"), answer(1, 7, z(16, 1), api.Word{Node: api.Znode{Path: "/16.1", Data: "d"}})}
}

// P27.4
func TestLinear(t *testing.T) {
	same(t, "Linear", []bool{Linear(conf, nil), Linear(conf, asked())}, []bool{true, true})
	for i, turn := range []func([]api.Fact) []api.Fact{
		func(l []api.Fact) []api.Fact { return l[1:] }, func(l []api.Fact) []api.Fact { l[0], l[3] = l[3], l[0]; return l }, func(l []api.Fact) []api.Fact { l[0].Node = 2; return l }, func(l []api.Fact) []api.Fact { l[3].Word.At.N = 2; return l },
		func(l []api.Fact) []api.Fact { l[3].Word.Err = 3; return l }, func(l []api.Fact) []api.Fact { l[3].Word.Made = ""; return l }, func(l []api.Fact) []api.Fact { l[0].Xid, l[3].Xid = 5, 5; return l }, func(l []api.Fact) []api.Fact { l[5].Word.At = z(16, 2); return l },
		func(l []api.Fact) []api.Fact { l[5].Word.At = z(0, 0); return l }, func(l []api.Fact) []api.Fact { l[5].Word.Node.Version = 2; return l }, func(l []api.Fact) []api.Fact { l[5].Word.Err = api.ErrNone; return l }, func(l []api.Fact) []api.Fact { l[4].Path = "/x"; return l },
		func(l []api.Fact) []api.Fact { l[4].Read, l[4].Path = api.ReadKids, "/"; return l }, func(l []api.Fact) []api.Fact {
			return append(l, done(1, 16, 1), api.Fact{Kind: api.FactDone, Txn: api.Txn{At: z(16, 1)}})
		}, func(l []api.Fact) []api.Fact { return append(l, seen(0, z(16, 0))) },
		func(l []api.Fact) []api.Fact { return append(l, seen(3, z(16, 0)), seen(3, z(15, 9))) }, func(l []api.Fact) []api.Fact { return append(l, seen(3, z(-1, 0))) }, func(l []api.Fact) []api.Fact { return append([]api.Fact{seen(1, z(16, 2))}, l...) },
	} {
		same(t, fmt.Sprint("Linear of a wrong one ", i), Linear(conf, turn(asked())), false)
	}
	for i, more := range [][]api.Fact{
		{seen(0, z(16, 1)), seen(0, z(99, 1)), seen(7, z(9, 9)), seen(7, z(1, 1)), seen(-1, z(-1, 0))}, {reads(0, 8, api.ReadKids, "/"), answer(0, 8, z(16, 1), api.Word{Names: []string{"16.1"}})}, {reads(2, 8, api.ReadKids, "/"), answer(2, 8, z(0, 0), api.Word{})},
		{reads(0, 8, 77, "/x"), answer(0, 8, z(16, 1), api.Word{Err: api.ErrNone})}, {reads(0, 8, api.ReadNode, "/16.1"), answer(0, 8, z(16, 1), api.Word{Err: api.ErrFull})}, {{Kind: api.FactTold, Node: 0, Xid: 77, Word: api.Word{Err: api.ErrArg}}},
		{reads(0, 8, api.ReadNode, "x"), answer(0, 8, z(16, 1), api.Word{Err: api.ErrArg})}, {{Kind: api.FactLost, Node: 0, Xid: 77}, jump(0, z(1, 1))}, {reads(1, 7, api.ReadKids, "/other"), answer(1, 7, z(16, 1), api.Word{Node: api.Znode{Path: "/16.1", Data: "d"}})},
	} {
		same(t, fmt.Sprint("Linear with more ", i), Linear(conf, append(asked(), more...)), true)
	}
}

// P27.4: real time.
func TestRealTime(t *testing.T) {
	l := []api.Fact{call(1, 1601), call(0, 1602), done(0, 16, 1), done(0, 16, 2), told(0, 16, 2), told(1, 16, 1)}
	same(t, "both at once", Linear(conf, l), true)
	l[0], l[1], l[2], l[3], l[4] = l[1], l[2], l[3], l[4], l[0]
	same(t, "one behind the other", Linear(conf, l), false)
	l = []api.Fact{done(0, 16, 1), reads(0, 5, api.ReadKids, "/"), answer(0, 5, z(16, 1), api.Word{Names: []string{"16.1"}}), call(1, 1601), told(1, 16, 1)}
	same(t, "a read ahead", Linear(conf, l), true)
	same(t, "passed over", Linear(conf, append([]api.Fact{{Kind: api.FactTold, Xid: 3, Word: api.Word{Err: api.ErrArg}}}, l...)), true)
}

// P27.5
func TestJudge(t *testing.T) {
	same(t, "Judge", []int{Judge(conf, nil), Judge(conf, asked()), Judge(conf, asked()[3:4]), Judge(conf, []api.Fact{done(0, 16, 1)}), Judge(conf, []api.Fact{made(0, 16, 1), done(0, 16, 1), done(0, 16, 1)}), Judge(conf, []api.Fact{done(0, 16, 1), done(0, 16, 1), told(0, 16, 1)})}, []int{0, 0, 4, 2, 1, 7})
}

// P27.6, P27.7
func TestBeginnings(t *testing.T) {
	r := rand.New(rand.NewSource(1))
	chains, primaries := 0, 0
	for range 4000 {
		var l []api.Fact
		for range 1 + r.Intn(7) {
			switch node := r.Intn(2); r.Intn(4) {
			case 0:
				l = append(l, made(node, 16+node, 1+r.Intn(3)))
			case 1:
				l = append(l, jump(node, z(16, r.Intn(3))))
			default:
				l = append(l, done(node, 16, 1+r.Intn(3)))
			}
		}
		for n := range l {
			if Chain(l) && !Chain(l[:n]) || Primary(l) && !Primary(l[:n]) {
				t.Fatalf("the first %d of %v", n, l)
			}
		}
		if Primary(l) {
			primaries++
		}
		if !Chain(l) {
			continue
		}
		chains++
		ahead := map[api.Zxid]api.Zxid{}
		last := map[int]api.Zxid{}
		for _, f := range l {
			if f.Kind == api.FactDone {
				if was, there := ahead[f.Txn.At]; there && was != last[f.Node] {
					t.Fatalf("two ways to %v: %v", f.Txn.At, l)
				}
				ahead[f.Txn.At], last[f.Node] = last[f.Node], f.Txn.At
			} else if f.Kind == api.FactJump {
				last[f.Node] = f.At
			}
		}
	}
	if chains < 100 || primaries < 100 {
		t.Errorf("only %d chains, %d primaries", chains, primaries)
	}
}
