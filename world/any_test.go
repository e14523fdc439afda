package world

import (
	"math/rand"
	"testing"

	"witan/api"
	"witan/history"
	"witan/judge"
	"witan/lead"
	"witan/reconf"
	"witan/server"
	"witan/state"
)

// some: an act of any kind.
func some(r *rand.Rand, n int) api.Act {
	id, other, who := r.Intn(n), r.Intn(n), r.Intn(api.MaxClients)
	switch k := r.Intn(100); {
	case k < 40:
		return api.Act{Kind: api.ActCome, N: r.Intn(6)}
	case k < 55:
		return api.Act{Kind: api.ActSay, N: r.Intn(3)}
	case k < 67:
		return api.Act{Kind: api.ActTick, A: id}
	case k < 69:
		return api.Act{Kind: api.ActReset + r.Intn(2), A: id, B: other}
	case k < 71:
		return api.Act{Kind: api.ActHeal, A: id, B: other}
	case k < 72:
		return api.Act{Kind: api.ActCrash, A: id, Keep: []int{r.Intn(200), r.Intn(200), r.Intn(200)}}
	case k < 76:
		return api.Act{Kind: api.ActStart, A: id, Keep: []int{r.Intn(200), r.Intn(200)}}
	case k < 77:
		return api.Act{Kind: api.ActArm, A: id, N: r.Intn(20)}
	case k < 78:
		return api.Act{Kind: api.ActRoom, A: id, N: 2000 + r.Intn(3)*40000}
	case k < 81:
		return api.Act{Kind: api.ActConnect, A: who, B: id}
	case k < 86:
		return api.Act{Kind: api.ActCalm, N: r.Intn(2)}
	case k < 87 && r.Intn(4) == 0:
		return api.Act{Kind: api.ActLeave, A: who}
	case k < 88:
		return api.Act{Kind: api.ActBeat, A: who}
	case k < 92:
		return api.Act{Kind: api.ActRead, A: who, N: 1 + r.Intn(2), Path: somePath(r), Watch: r.Intn(2) == 0}
	}
	return api.Act{Kind: api.ActAsk, A: who, N: 1, Ask: request(r, n)}
}

func somePath(r *rand.Rand) string {
	return []string{"/", "/a", "/b", "/a/c", "/a/d"}[r.Intn(5)]
}

func request(r *rand.Rand, n int) api.Request {
	switch r.Intn(12) {
	case 0:
		return api.Request{Kind: api.ReqClose}
	case 1, 2:
		d := api.Delta{}
		if r.Intn(2) == 0 {
			d.Put = []api.Member{{Id: r.Intn(n), Role: 1 + r.Intn(2), Weight: 1}}
		} else {
			d.Drop = []int{r.Intn(n)}
		}
		return api.Request{Kind: api.ReqConfig, Delta: d}
	}
	q := api.Request{Kind: api.ReqOps}
	for range 1 + r.Intn(2) {
		q.Ops = append(q.Ops, api.Op{Kind: 1 + r.Intn(4), Path: somePath(r), Data: string(rune('a' + r.Intn(26))), Version: -1, Owned: r.Intn(5) == 0, Seq: r.Intn(5) == 0})
	}
	return q
}

// healed: acts behind which nothing is lost any more.
func healed(n int) []api.Act {
	var l []api.Act
	for a := range n {
		l = append(l, api.Act{Kind: api.ActRoom, A: a, N: 1000000}, api.Act{Kind: api.ActArm, A: a})
		for b := range a {
			l = append(l, api.Act{Kind: api.ActHeal, A: a, B: b})
		}
	}
	for a := range n {
		l = append(l, api.Act{Kind: api.ActStart, A: a})
	}
	return append(l, api.Act{Kind: api.ActCalm, N: 40})
}

func leader(t *testing.T, w api.World) api.Server {
	var leads []api.Server
	for _, s := range w.Servers {
		if _, full := lead.Place(s.Peer); full {
			leads = append(leads, s)
		}
	}
	if len(leads) != 1 {
		t.Fatalf("%d lead in full", len(leads))
	}
	return leads[0]
}

// P28.7, P28.8, P28.9, P28.10
func TestAny(t *testing.T) {
	done, tolds, configs := 0, 0, 0
	for seed := range 120 {
		r := rand.New(rand.NewSource(int64(seed)))
		n := 3 + r.Intn(3)
		var l []api.Act
		for range 400 {
			l = append(l, some(r, n))
		}
		l = append(l, healed(n)...)
		c := of(3)
		w, e := Run(c, n, 40000, l)
		if e != api.OK {
			t.Fatalf("Run: %d", e)
		}
		top := leader(t, w)
		for _, id := range reconf.Voting(history.Needs(top.Peer.History, top.Peer.Done)) {
			if s := w.Servers[id]; !server.Serves(s) || !state.Same(s.State, top.State) {
				t.Fatalf("seed %d: %d votes, and is behind", seed, id)
			}
		}
		for i, a := range w.Servers {
			for _, b := range w.Servers[:i] {
				if a.Up && b.Up && a.State.At == b.State.At && !state.Same(a.State, b.State) {
					t.Fatalf("seed %d: %d and %d have other states", seed, a.Id, b.Id)
				}
			}
		}
		w = Step(Step(w, api.Act{Kind: api.ActConnect, A: 1, B: top.Id}), api.Act{Kind: api.ActCalm, N: 1})
		if w.Clients[1].Phase == 1 {
			t.Fatalf("seed %d: a client is not answered", seed)
		}
		if n := judge.Judge(c, w.Facts); n != 0 {
			t.Fatalf("seed %d: judge %d", seed, n)
		}
		log, _ := judge.Log(w.Facts)
		done += len(log)
		for _, f := range w.Facts {
			if f.Kind == api.FactTold && f.Word.Kind == api.TellDone && f.Word.At != (api.Zxid{}) {
				tolds++
				kept(t, w, top.Id, f.Word.At)
			}
		}
		for _, u := range log {
			for _, p := range u.Parts {
				if p.Kind == api.PartConfig {
					configs++
				}
			}
		}
	}
	t.Logf("%d done, %d told, %d configs", done, tolds, configs)
	if done < 800 || tolds < 200 || configs < 20 {
		t.Errorf("too little happened: %d done, %d told, %d configs", done, tolds, configs)
	}
}

// kept: the leader has done what was told to be done; it may have got it with an image.
func kept(t *testing.T, w api.World, id int, at api.Zxid) {
	var image api.Zxid
	for _, f := range w.Facts {
		if f.Node != id {
			continue
		}
		if f.Kind == api.FactJump {
			image = f.At
		}
		if f.Kind == api.FactDone && f.Txn.At == at {
			return
		}
	}
	if image.Epoch < at.Epoch || image.Epoch == at.Epoch && image.N < at.N {
		t.Fatalf("%d has not done %v", id, at)
	}
}
