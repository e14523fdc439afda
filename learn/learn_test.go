package learn

import (
	"fmt"
	"math/rand"
	"testing"

	"witan/api"
	"witan/history"
	"witan/state"
	"witan/zxid"
)

func same(t *testing.T, what string, got, want any) {
	t.Helper()
	if a, b := fmt.Sprint(got), fmt.Sprint(want); a != b {
		t.Errorf("%s: %s, want %s", what, a, b)
	}
}

func z(epoch, n int) api.Zxid { return api.Zxid{Epoch: epoch, N: n} }

func txns(l ...api.Zxid) []api.Txn {
	var out []api.Txn
	for _, at := range l {
		out = append(out, api.Txn{At: at})
	}
	return out
}

func of(l ...api.Zxid) api.Peer {
	c := api.Config{Kind: 1, Members: []api.Member{{Id: 0, Role: 1}, {Id: 1, Role: 1}, {Id: 2, Role: 1}}}
	return api.Peer{Id: 1, Accepted: 5, Current: 1, History: api.History{Image: state.Start(c), Log: txns(l...)}, Mode: api.Looking, Leader: -1, Seek: api.Seek{Round: 3}}
}

func hear(p api.Peer, m api.Msg) (api.Peer, []api.Msg, bool) {
	if m.Epoch == 0 {
		m.Epoch = p.Epoch
	}
	return Hear(p, m)
}

func epoch(n int) api.Msg { return api.Msg{Kind: api.MsgEpoch, Epoch: n} }

func sync(kind int, keep api.Zxid, l ...api.Zxid) api.Msg {
	return api.Msg{Kind: api.MsgSync, Plan: api.Plan{Kind: kind, Keep: keep, Log: txns(l...)}}
}

// in: a learner of 0 in that phase, in epoch 16.
func in(phase int, l ...api.Zxid) api.Peer {
	p, _, _ := Begin(of(l...), 0)
	if phase > 1 {
		p, _, _ = hear(p, epoch(16))
	}
	if phase > 2 {
		p, _, _ = hear(p, sync(api.PlanDiff, z(0, 0)))
	}
	if phase > 3 {
		p, _, _ = hear(p, api.Msg{Kind: api.MsgReady})
	}
	p.Wait = 5
	return p
}

func TestPhases(t *testing.T) {
	for phase := 1; phase < 5; phase++ {
		same(t, "in", in(phase).Phase, phase)
	}
}

// P22.1
func TestBegin(t *testing.T) {
	p := of(z(1, 1))
	p.Wait, p.Epoch, p.Learners = 4, 9, []api.Learner{{Id: 3}}
	p, l, ok := Begin(p, 2)
	same(t, "Begin", []any{p.Mode, p.Leader, p.Phase, p.Wait, p.Epoch, len(p.Learners), p.Seek.Round, p.Accepted, ok}, []any{api.Learning, 2, 1, 0, 0, 0, 3, 5, true})
	same(t, "MsgInfo", l, []api.Msg{{From: 1, To: 2, Kind: api.MsgInfo, Epoch: 5}})
}

// P22.2
func TestPromise(t *testing.T) {
	p := in(1, z(1, 1))
	p.Done = z(1, 1)
	q, l, ok := hear(p, epoch(16))
	same(t, "MsgEpoch", []any{q.Accepted, q.Epoch, q.Phase, q.Wait, q.Current, ok}, []any{16, 16, 2, 0, 1, true})
	same(t, "MsgAckEpoch", l, []api.Msg{{From: 1, To: 0, Kind: api.MsgAckEpoch, Epoch: 16, Current: 1, Marks: []api.Zxid{{}, z(1, 1)}, At: z(1, 1)}})
	q, l, ok = hear(p, epoch(17))
	same(t, "another's epoch", []any{q, len(l), ok}, []any{p, 0, true})
	p.Accepted = 16
	_, _, ok = hear(p, epoch(16))
	same(t, "what was promised", ok, true)
	p.Accepted = 17
	q, l, ok = hear(p, epoch(16))
	same(t, "less than was promised", []any{q, len(l), ok}, []any{p, 0, false})
}

// P22.3
func TestSync(t *testing.T) {
	p := in(2, z(1, 1), z(1, 2))
	p.Done = z(1, 2)
	q, l, ok := hear(p, sync(api.PlanCut, z(1, 1), z(3, 1)))
	same(t, "MsgSync", []any{history.Marks(q.History), q.Done, q.Phase, q.Wait, q.Current, ok}, []any{[]api.Zxid{{}, z(1, 1), z(3, 1)}, z(0, 0), 3, 0, 16, true})
	same(t, "MsgAckSync", l, []api.Msg{{From: 1, To: 0, Kind: api.MsgAckSync, Epoch: 16, At: z(3, 1)}})
	q, _, _ = hear(p, sync(api.PlanDiff, z(1, 2), z(3, 1)))
	same(t, "Done is a mark", q.Done, z(1, 2))
	image := api.Msg{Kind: api.MsgSync, Plan: api.Plan{Kind: api.PlanSnap, Image: api.State{At: z(2, 5)}}}
	q, l, _ = hear(p, image)
	same(t, "an image", []any{q.Done, l[0].At, q.History.Image.At}, []any{z(2, 5), z(2, 5), z(2, 5)})
	q, l, ok = hear(p, sync(api.PlanCut, z(9, 9)))
	same(t, "a plan that is none", []any{len(l), ok, q.Phase, q.Current}, []any{0, false, 2, 1})
}

// P22.4
func TestFollow(t *testing.T) {
	for phase := 3; phase < 5; phase++ {
		p := in(phase)
		q, l, ok := hear(p, api.Msg{Kind: api.MsgPropose, Txn: api.Txn{At: z(16, 1)}})
		same(t, "MsgPropose", []any{history.Last(q.History), q.Wait, q.Done, ok, l}, []any{z(16, 1), 0, z(0, 0), true, []api.Msg{{From: 1, To: 0, Kind: api.MsgAck, Epoch: 16, At: z(16, 1)}}})
		q.Wait = 5
		again, l, _ := hear(q, api.Msg{Kind: api.MsgPropose, Txn: api.Txn{At: z(16, 1)}})
		same(t, "MsgPropose again", []any{len(again.History.Log), again.Wait, len(l)}, []any{1, 0, 0})
		known := z(0, 0)
		if phase == 4 {
			known = z(16, 1)
		}
		again, l, _ = hear(q, api.Msg{Kind: api.MsgInform, Txn: api.Txn{At: z(16, 1)}})
		same(t, "MsgInform of one that is there", []any{len(again.History.Log), again.Done, again.Wait, len(l)}, []any{1, known, 0, 0})
		again, l, _ = hear(p, api.Msg{Kind: api.MsgInform, Txn: api.Txn{At: z(16, 1)}})
		same(t, "MsgInform", []any{len(again.History.Log), again.Done, again.Wait, len(l)}, []any{1, known, 0, 0})
		again, l, ok = hear(q, api.Msg{Kind: api.MsgReady, At: z(16, 1)})
		same(t, "MsgReady", []any{again.Phase, again.Done, again.Wait, len(l), ok}, []any{4, z(16, 1), 0, 0, true})
		again, _, _ = hear(again, api.Msg{Kind: api.MsgReady, At: z(0, 0)})
		same(t, "MsgReady of less", []any{again.Phase, again.Done}, []any{4, z(16, 1)})
		again, _, _ = hear(q, api.Msg{Kind: api.MsgReady, At: z(16, 2)})
		same(t, "MsgReady of no mark", []any{again.Phase, again.Done}, []any{4, z(0, 0)})
		again, l, ok = hear(q, api.Msg{Kind: api.MsgCommit, At: z(16, 1)})
		same(t, "MsgCommit", []any{again.Phase, again.Done, again.Wait, len(l), ok}, []any{phase, known, 0, 0, true})
		again, _, _ = hear(q, api.Msg{Kind: api.MsgCommit, At: z(16, 2)})
		same(t, "MsgCommit of no mark", again.Done, z(0, 0))
		again, l, ok = hear(p, api.Msg{Kind: api.MsgPing})
		same(t, "MsgPing", []any{again.Wait, l, ok}, []any{0, []api.Msg{{From: 1, To: 0, Kind: api.MsgPong, Epoch: 16}}, true})
	}
}

// P22.5
func TestTick(t *testing.T) {
	for phase := 1; phase < 5; phase++ {
		p := in(phase)
		p.Wait = 0
		for n := 1; n < 10; n++ {
			q, l, ok := Tick(p)
			want := 0
			if phase == 1 && n < 9 {
				want = 1
			}
			same(t, fmt.Sprint("Tick in Phase ", phase), []any{q.Wait, len(l), ok}, []any{n, want, n < 9})
			p = q
		}
	}
	_, l, _ := Tick(in(1))
	same(t, "MsgInfo again", l, []api.Msg{{From: 1, To: 0, Kind: api.MsgInfo, Epoch: 5}})
	p, l, ok := Lost(in(4), 0)
	same(t, "Lost of the leader", []any{p, len(l), ok}, []any{in(4), 0, false})
	_, _, ok = Lost(in(4), 2)
	same(t, "Lost of another", ok, true)
}

// P22.6
func TestNothing(t *testing.T) {
	for phase := 1; phase < 5; phase++ {
		p := in(phase, z(1, 1))
		for i, m := range []api.Msg{
			{From: 2, Kind: api.MsgPing, Epoch: p.Epoch}, {Kind: api.MsgPing, Epoch: 32}, {Kind: api.MsgVote, Epoch: p.Epoch}, {Kind: api.MsgAck, Epoch: p.Epoch}, {Kind: 0, Epoch: p.Epoch}, {From: 2, Kind: api.MsgEpoch, Epoch: 34}, {From: 1, Kind: api.MsgPing, Epoch: p.Epoch},
		} {
			q, l, ok := Hear(p, m)
			same(t, fmt.Sprint("a message that changes nothing ", i, " in Phase ", phase), []any{q, l, ok}, []any{p, []api.Msg{}, true})
		}
		for kind := range 15 {
			said := kind == api.MsgEpoch && phase == 1 || kind == api.MsgSync && phase == 2 ||
				(kind == api.MsgPropose || kind == api.MsgInform || kind == api.MsgReady || kind == api.MsgCommit || kind == api.MsgPing) && phase > 2
			m := api.Msg{Kind: kind, Epoch: max(p.Epoch, 16), Plan: api.Plan{Kind: api.PlanDiff}, Txn: api.Txn{At: z(16, 1)}}
			q, l, ok := hear(p, m)
			same(t, fmt.Sprint("kind ", kind, " in Phase ", phase), []bool{fmt.Sprint(q) != fmt.Sprint(p), ok}, []bool{said, true})
			if !said && len(l) > 0 {
				t.Errorf("kind %d in Phase %d is answered", kind, phase)
			}
		}
	}
	for _, mode := range []int{0, api.Looking, api.Leading} {
		p := in(4)
		p.Mode = mode
		a, l, first := hear(p, api.Msg{Kind: api.MsgPing})
		b, m, second := Tick(p)
		c, n, third := Lost(p, 0)
		same(t, "one that does not learn", []any{a, b, c, len(l) + len(m) + len(n)}, []any{p, p, p, 0})
		same(t, "it has nothing to give up", []bool{first, second, third}, []bool{true, true, true})
	}
}

// P22.7, P22.8, P22.9
func TestAny(t *testing.T) {
	r := rand.New(rand.NewSource(1))
	for range 500 {
		p := in(1, z(1, 1), z(1, 2))
		for range 40 {
			was := p
			m := api.Msg{Kind: 1 + r.Intn(14), Epoch: p.Epoch, At: z(16, r.Intn(4)), Txn: api.Txn{At: z(16, 1+r.Intn(6))}}
			m.Plan = api.Plan{Kind: 1 + r.Intn(2), Keep: z(1, r.Intn(3)), Log: txns(z(2, 1))}
			if m.Kind == api.MsgEpoch {
				m.Epoch = 16 * r.Intn(3)
			}
			var l []api.Msg
			p, l, _ = Hear(p, m)
			if p.Accepted < was.Accepted || p.Accepted < p.Epoch {
				t.Fatalf("a promise of %d becomes %d", was.Accepted, p.Accepted)
			}
			for _, a := range l {
				if a.Epoch < p.Accepted {
					t.Fatalf("%v is sent behind a promise of %d", a, p.Accepted)
				}
				if (a.Kind == api.MsgAck || a.Kind == api.MsgAckSync) && a.At != history.Last(p.History) {
					t.Fatalf("%v is acknowledged, the last is %v", a.At, history.Last(p.History))
				}
			}
			if _, e := history.Upto(p.History, p.Done); e != api.OK {
				t.Fatalf("Done %v is no mark of %v", p.Done, history.Marks(p.History))
			}
			if was.Phase > 2 && (zxid.Cmp(p.Done, was.Done) < 0 || len(p.History.Log) < len(was.History.Log)) {
				t.Fatalf("%v becomes %v", was, p)
			}
		}
	}
}
