package world

import (
	"fmt"
	"testing"

	"witan/api"
)

func same(t *testing.T, what string, got, want any) {
	t.Helper()
	if a, b := fmt.Sprint(got), fmt.Sprint(want); a != b {
		t.Errorf("%s: %s, want %s", what, a, b)
	}
}

// of: a config of participants 0 to n - 1.
func of(n int) api.Config {
	c := api.Config{Kind: api.Majority}
	for id := range n {
		c.Members = append(c.Members, api.Member{Id: id, Role: api.Participant, Weight: 1})
	}
	return c
}

func acts(w api.World, l ...api.Act) api.World {
	for _, a := range l {
		w = Step(w, a)
	}
	return w
}

func ran(t *testing.T, n, servers int, l ...api.Act) api.World {
	w, e := Run(of(n), servers, 100000, l)
	if e != api.OK {
		t.Fatalf("Run: %d", e)
	}
	return w
}

func kinds(l []api.Fact) []int {
	var out []int
	for _, f := range l {
		out = append(out, f.Kind)
	}
	return out
}

func create(client int, p string) api.Act {
	return api.Act{Kind: api.ActAsk, A: client, Ask: api.Request{Kind: api.ReqOps, Ops: []api.Op{{Kind: api.OpCreate, Path: p}}}}
}

func calm(n int) api.Act { return api.Act{Kind: api.ActCalm, N: n} }

func connect(client, to int) api.Act { return api.Act{Kind: api.ActConnect, A: client, B: to} }

// P28.1
func TestNew(t *testing.T) {
	w, e := New(of(2), 3, 5000)
	same(t, "New", []any{e, len(w.Servers), len(w.Clients), len(w.Mail) + len(w.Words) + len(w.Facts) + len(w.Cut)}, []any{api.OK, 3, 4, 0})
	same(t, "its config", w.Config, of(2))
	for id, s := range w.Servers {
		same(t, "a server", []any{s.Id, s.Up, s.Disk.Cap, len(s.Disk.Files)}, []any{id, false, 5000, 1})
	}
	for id, c := range w.Clients {
		same(t, "a client", c, api.Client{Id: id, Server: -1, Xid: (id + 1) << 20})
	}
	for _, c := range []struct {
		c       api.Config
		n, size int
		e       api.Errno
	}{{of(1), 0, 5000, api.ErrArg}, {of(1), 17, 5000, api.ErrArg}, {api.Config{}, -1, 5000, api.ErrArg}, {api.Config{}, 3, 5000, api.ErrConfig}, {of(3), 2, 5000, api.ErrConfig}, {of(1), 1, 3, api.ErrFull}, {of(16), 16, 5000, api.OK}} {
		w, e := New(c.c, c.n, c.size)
		same(t, "New", []any{e, len(w.Servers)}, []any{c.e, len(w.Servers) * (1 - min(int(c.e), 1))})
		w, e = Run(c.c, c.n, c.size, nil)
		same(t, "Run", []any{e, len(w.Clients) > 0}, []any{c.e, c.e == api.OK})
	}
}

// P28.2, and the example
func TestRun(t *testing.T) {
	w := ran(t, 3, 3)
	same(t, "all are started", []any{w.Servers[0].Up, w.Servers[2].Up, kinds(w.Facts)}, []any{true, true, []int{api.FactJump, api.FactJump, api.FactJump}})
	for _, kind := range []int{-1, 0, 17} {
		same(t, "an act of no kind", fmt.Sprint(Step(w, api.Act{Kind: kind})) == fmt.Sprint(w), true)
	}
	w = ran(t, 3, 3, calm(3), connect(0, 1), calm(1), create(0, "/a"), calm(1))
	same(t, "2 leads", w.Servers[2].Peer.Phase, 3)
	f := w.Facts[len(w.Facts)-1]
	same(t, "FactTold", []any{f.Kind, f.Node, f.Xid, f.Word.Made}, []any{api.FactTold, 0, w.Clients[0].Xid, "/a"})
	log := 0
	for _, f := range w.Facts {
		if f.Kind == api.FactMade {
			same(t, "FactMade", []any{f.Node, f.Epoch}, []any{2, f.Txn.At.Epoch})
			log++
		}
	}
	same(t, "made", log, 2)
	steps := acts(ran(t, 3, 3), calm(3), connect(0, 1), calm(1), create(0, "/a"), calm(1))
	same(t, "act by act", fmt.Sprint(steps) == fmt.Sprint(w), true)
}

// P28.3
func TestFell(t *testing.T) {
	w := ran(t, 3, 3, calm(3), connect(3, 2), connect(1, 2), connect(0, 1), calm(1), create(1, "/a"), api.Act{Kind: api.ActTick, A: 2}, api.Act{Kind: api.ActTick, A: 0}, create(3, "/b"))
	from := len(w.Facts)
	mail := 0
	for _, m := range w.Mail {
		if m.From != 2 && m.To != 2 {
			mail++
		}
	}
	w = Step(w, api.Act{Kind: api.ActCrash, A: 2})
	same(t, "clients are parted", []any{kinds(w.Facts[from:]), w.Facts[from].Node, w.Facts[from+1].Node, w.Clients[1].Phase, w.Clients[3].Phase, w.Clients[0].Phase}, []any{[]int{api.FactLost, api.FactLost}, 1, 3, 0, 0, 2})
	same(t, "the others look", []any{w.Servers[0].Peer.Mode, w.Servers[1].Peer.Mode, w.Servers[2].Up}, []any{api.Looking, api.Looking, false})
	for _, m := range w.Mail[:mail] {
		same(t, "what goes to it, and from it", m.From == 2 || m.To == 2, false)
	}
	for _, x := range w.Words {
		same(t, "words", x.Client, 0)
	}
	again := Step(w, api.Act{Kind: api.ActCrash, A: 2})
	same(t, "it fell ahead", fmt.Sprint(again) == fmt.Sprint(w), true)
}

// P28.4
func TestServers(t *testing.T) {
	w := ran(t, 3, 3)
	n := len(w.Mail)
	for _, k := range []int{-1, 99} {
		same(t, "ActCome of none", len(Step(w, api.Act{Kind: api.ActCome, N: k}).Mail), n)
	}
	m := w.Mail[1]
	x := Step(w, api.Act{Kind: api.ActCome, N: 1})
	same(t, "ActCome", []any{m.To, len(x.Servers[m.To].Peer.Seek.Heard) > 1 || x.Servers[m.To].Peer.Seek.Now != w.Servers[m.To].Peer.Seek.Now}, []any{2, true})
	same(t, "ActTick", []int{Step(w, api.Act{Kind: api.ActTick, A: 1}).Servers[1].Peer.Wait, Step(w, api.Act{Kind: api.ActTick, A: 1}).Servers[0].Peer.Wait}, []int{1, 0})
	between := func(w api.World, a, b int) int {
		n := 0
		for _, m := range w.Mail {
			if m.From == a && m.To == b || m.From == b && m.To == a {
				n++
			}
		}
		return n
	}
	same(t, "ActReset", []int{between(w, 0, 1), between(Step(w, api.Act{Kind: api.ActReset, A: 1, B: 0}), 0, 1), between(Step(w, api.Act{Kind: api.ActReset, A: 1, B: 0}), 0, 2)}, []int{2, 0, 2})
	for _, kind := range []int{api.ActReset, api.ActCut, api.ActHeal, api.ActTick, api.ActCrash, api.ActStart, api.ActArm, api.ActRoom} {
		for _, a := range []api.Act{{A: -1, B: 1}, {A: 3, B: 1}} {
			a.Kind = kind
			same(t, "of no server", fmt.Sprint(Step(w, a)) == fmt.Sprint(w), true)
		}
	}
	settled := ran(t, 3, 3, calm(3))
	for _, kind := range []int{api.ActReset, api.ActCut, api.ActHeal} {
		same(t, "of one server alone", fmt.Sprint(Step(settled, api.Act{Kind: kind, A: 2, B: 2})) == fmt.Sprint(settled), true)
	}
	cut := acts(w, api.Act{Kind: api.ActCut, A: 2, B: 0}, api.Act{Kind: api.ActTick, A: 0})
	same(t, "ActCut", []any{cut.Cut, between(cut, 0, 2), between(cut, 0, 1)}, []any{[]api.Pair{{A: 0, B: 2}}, 0, 3})
	cut = acts(cut, api.Act{Kind: api.ActHeal, A: 0, B: 2}, api.Act{Kind: api.ActTick, A: 0})
	same(t, "ActHeal", []any{len(cut.Cut), between(cut, 0, 2)}, []any{0, 1})
	x = acts(w, api.Act{Kind: api.ActArm, A: 1, N: 4}, api.Act{Kind: api.ActRoom, A: 1, N: 77})
	same(t, "ActArm and ActRoom", []int{x.Servers[1].Disk.Fuse, x.Servers[1].Disk.Cap}, []int{4, 77})
	x = acts(w, api.Act{Kind: api.ActCrash, A: 1}, api.Act{Kind: api.ActStart, A: 1})
	same(t, "ActCrash and ActStart", []any{x.Servers[1].Up, len(x.Facts)}, []any{true, 4})
	far := acts(ran(t, 3, 3, calm(3)), api.Act{Kind: api.ActCut, A: 2, B: 1}, api.Act{Kind: api.ActCut, A: 2, B: 0}, calm(2))
	same(t, "a leader whose links are lost", []any{far.Servers[1].Peer.Leader, far.Servers[0].Peer.Mode}, []any{1, api.Learning})
}

// P28.4: words.
func TestSay(t *testing.T) {
	w := ran(t, 1, 1, connect(0, 0), connect(1, 0), api.Act{Kind: api.ActSay, N: 1})
	same(t, "the second word", []any{len(w.Words), w.Words[0].Client, w.Words[1].Client, w.Words[1].Kind}, []any{2, 0, 1, api.TellOpen})
	w = acts(w, api.Act{Kind: api.ActSay, N: 1})
	same(t, "heard", []int{w.Clients[1].Phase, w.Clients[1].Session, len(w.Words)}, []int{2, 1, 1})
	for _, n := range []int{-1, 1} {
		same(t, "ActSay of none", len(Step(w, api.Act{Kind: api.ActSay, N: n}).Words), 1)
	}
	w = acts(w, calm(1), api.Act{Kind: api.ActRead, A: 1, N: api.ReadNode, Path: "/a", Watch: true}, calm(0), create(0, "/a"), api.Act{Kind: api.ActSay})
	from := len(w.Facts)
	w = acts(w, api.Act{Kind: api.ActSay, N: 0}, api.Act{Kind: api.ActSay, N: 0})
	same(t, "a note, and an answer", []any{kinds(w.Facts[from:]), w.Facts[from].Node, w.Facts[from].Word.Note.What, len(w.Clients[1].Notes)}, []any{[]int{api.FactSeen, api.FactTold}, 1, api.NoteCreated, 1})
	x := acts(w, create(0, "/b"), api.Act{Kind: api.ActBeat, A: 0}, api.Act{Kind: api.ActRead, A: 1, N: 1, Path: "/"})
	same(t, "one way", []any{len(x.Words), x.Words[2].Client, Step(x, api.Act{Kind: api.ActSay, N: 1}).Words[1].Kind}, []any{3, 1, api.SayBeat})
	stray := x
	stray.Words = []api.Word{{Client: 9, Kind: api.TellOpen}, {Client: -1, Kind: api.SayBeat, Server: 7}}
	same(t, "words of nobody", len(acts(stray, api.Act{Kind: api.ActSay}, api.Act{Kind: api.ActSay}).Words), 0)
}

// P28.5
func TestClients(t *testing.T) {
	w := ran(t, 1, 2, connect(0, 0), calm(1))
	for _, kind := range []int{api.ActLeave, api.ActConnect, api.ActAsk, api.ActRead, api.ActBeat} {
		for _, id := range []int{-1, 4} {
			same(t, "of no client", fmt.Sprint(Step(w, api.Act{Kind: kind, A: id})) == fmt.Sprint(w), true)
		}
	}
	for _, to := range []int{-1, 2} {
		same(t, "to no server", fmt.Sprint(Step(w, connect(0, to))) == fmt.Sprint(w), true)
	}
	from := len(w.Facts)
	asked := Step(w, create(0, "/a"))
	f := asked.Facts[from]
	same(t, "FactCall", []any{f.Kind, f.Node, f.Xid, f.Ask.Ops[0].Path, len(asked.Words)}, []any{api.FactCall, 0, asked.Clients[0].Waits, "/a", 1})
	same(t, "what was asked", f.Ask, create(0, "/a").Ask)
	same(t, "while it waits", fmt.Sprint(Step(asked, create(0, "/b"))) == fmt.Sprint(asked), true)
	left := Step(asked, api.Act{Kind: api.ActLeave, A: 0})
	same(t, "ActLeave", []any{kinds(left.Facts[from:]), len(left.Words), left.Clients[0].Phase, len(left.Servers[0].Conns)}, []any{[]int{api.FactCall, api.FactLost}, 0, 0, 0})
	same(t, "ActLeave again", fmt.Sprint(Step(left, api.Act{Kind: api.ActLeave, A: 0})) == fmt.Sprint(left), true)
	moved := Step(asked, connect(0, 1))
	same(t, "ActConnect", []any{kinds(moved.Facts[from:]), len(moved.Words), moved.Words[0].Kind, moved.Words[0].Server, len(moved.Servers[0].Conns)}, []any{[]int{api.FactCall, api.FactLost}, 1, api.SayHello, 1, 0})
	read := Step(w, api.Act{Kind: api.ActRead, A: 0, N: api.ReadKids, Path: "/x", Watch: true})
	f = read.Facts[from]
	same(t, "ActRead", []any{f.Kind, f.Xid, f.Read, f.Path, read.Words[0].Watch}, []any{api.FactCall, read.Clients[0].Waits, api.ReadKids, "/x", true})
	same(t, "ActRead of no kind", fmt.Sprint(Step(w, api.Act{Kind: api.ActRead, A: 0, N: 3})) == fmt.Sprint(w), true)
	same(t, "ActBeat", []int{len(Step(w, api.Act{Kind: api.ActBeat, A: 0}).Words), len(Step(w, api.Act{Kind: api.ActBeat, A: 1}).Words)}, []int{1, 0})
	config := api.Act{Kind: api.ActAsk, A: 0, N: 1, Ask: api.Request{Kind: api.ReqConfig, Delta: api.Delta{Put: []api.Member{{Id: 1, Role: api.Observer}}}}}
	w = acts(w, config, calm(1), config)
	want := w.Servers[0].State.Config.At
	same(t, "the last config's place", []any{want.N > 0, w.Facts[len(w.Facts)-1].Ask.Want, w.Words[len(w.Words)-1].Ask.Want}, []any{true, want, want})
	config.N = 0
	w = acts(w, calm(1), config, calm(1))
	same(t, "another place", w.Facts[len(w.Facts)-1].Word.Err, api.ErrVersion)
}

// P28.6
func TestCalm(t *testing.T) {
	w := ran(t, 3, 3)
	same(t, "ActCalm 0", []any{len(Step(w, calm(0)).Mail), Step(w, calm(0)).Servers[0].Peer.Wait, fmt.Sprint(Step(w, calm(-5))) == fmt.Sprint(Step(w, calm(0)))}, []any{0, 0, true})
	w = Step(w, calm(3))
	far, most := Step(w, calm(1000)), Step(w, calm(200))
	same(t, "at most 200 rounds", []any{far.Servers[2].Peer.Wait, most.Servers[2].Peer.Wait}, []any{w.Servers[2].Peer.Wait + 200, w.Servers[2].Peer.Wait + 200})
	w = acts(w, connect(0, 1), calm(1), create(0, "/a"), calm(60))
	same(t, "clients beat", []any{len(w.Servers[2].State.Sessions), w.Clients[0].Phase, len(w.Words)}, []any{1, 2, 0})
	w = acts(w, api.Act{Kind: api.ActLeave, A: 0}, calm(30))
	same(t, "who is gone does not", len(w.Servers[2].State.Sessions), 0)
}
