package peer

import (
	"fmt"
	"testing"

	"witan/api"
	"witan/config"
	"witan/history"
	"witan/state"
)

func same(t *testing.T, what string, got, want any) {
	t.Helper()
	if a, b := fmt.Sprint(got), fmt.Sprint(want); a != b {
		t.Errorf("%s: %s, want %s", what, a, b)
	}
}

func z(epoch, n int) api.Zxid { return api.Zxid{Epoch: epoch, N: n} }

func parse(s string) api.Config {
	c, e := config.Parse("0.0 1" + s)
	if e != api.OK {
		panic(s)
	}
	return c
}

const three = " 0p1g0 1p1g0 2p1g0 3o1g0"

func saved(conf string, l ...api.Zxid) api.Saved {
	k := api.Saved{Accepted: 16, Current: 16, History: api.History{Image: state.Start(parse(conf))}}
	for _, at := range l {
		k.History.Log = append(k.History.Log, api.Txn{At: at})
	}
	return k
}

func started(id int, conf string, l ...api.Zxid) api.Peer {
	p, _ := Start(id, saved(conf, l...))
	return p
}

// said: messages in short: kind, to, and of votes round, epoch, last, candidate, mode, at.
func said(l []api.Msg) []string {
	var out []string
	for _, m := range l {
		s := fmt.Sprint(m.Kind, ">", m.To)
		if v := m.Vote; m.Kind == api.MsgVote {
			s += fmt.Sprint(" ", v.From, " r", v.Round, " e", v.Epoch, v.Last, " for ", v.Cand, " mode ", v.Mode, " at ", m.At)
		}
		out = append(out, s)
	}
	return out
}

func vote(from int, mode, round, epoch, cand int, last api.Zxid) api.Msg {
	return api.Msg{From: from, Kind: api.MsgVote, Vote: api.Vote{From: from, Round: round, Epoch: epoch, Last: last, Cand: cand, Mode: mode}}
}

func hear(p api.Peer, m api.Msg) (api.Peer, []string) {
	m.To = p.Id
	p, l := Step(p, api.Input{Kind: api.InMsg, Msg: m})
	return p, said(l)
}

func tick(p api.Peer) (api.Peer, []string) {
	p, l := Step(p, api.Input{Kind: api.InTick})
	return p, said(l)
}

// learner: 0 learns from 2, in that phase.
func learner(phase int) api.Peer {
	p, _ := hear(started(0, three, z(1, 1)), vote(2, api.Leading, 1, 16, 2, z(1, 1)))
	if phase > 1 {
		p, _ = hear(p, api.Msg{From: 2, Kind: api.MsgEpoch, Epoch: 18})
	}
	if phase > 2 {
		p, _ = hear(p, api.Msg{From: 2, Kind: api.MsgSync, Epoch: 18, Plan: api.Plan{Kind: api.PlanDiff}})
	}
	return p
}

// P23.1, P23.2
func TestStart(t *testing.T) {
	p, l := Start(0, saved(three, z(1, 1)))
	v := api.Vote{Round: 1, Epoch: 16, Last: z(1, 1), Mode: api.Looking}
	want := api.Peer{Id: 0, Accepted: 16, Current: 16, History: saved(three, z(1, 1)).History, Mode: api.Looking, Leader: -1, Seek: api.Seek{Round: 1, Own: v, Now: v, Heard: []api.Vote{v}}}
	same(t, "Start", p, want)
	row := " 0 r1 e16 {1 1} for 0 mode 1 at {0 0}"
	same(t, "it shouts", said(l), []string{"1>1" + row, "1>2" + row, "1>3" + row})
	k := saved(three)
	k.History.Image.At = z(1, 5)
	p, _ = Start(0, k)
	same(t, "Done is the base", p.Done, z(1, 5))
	p, l = Start(3, saved(three, z(1, 1)))
	v = api.Vote{From: 3, Round: 1, Epoch: -1, Cand: -1, Mode: api.Looking}
	same(t, "an observer does not stand", []any{p.Seek, len(l), l[0].Vote}, []any{api.Seek{Id: 3, Round: 1, Own: v, Now: v, Heard: []api.Vote{v}}, 3, v})
	p, l = Start(0, saved(" 0p1g0"))
	same(t, "alone it leads at once", []any{p.Mode, p.Phase, p.Epoch, len(l)}, []any{api.Leading, 3, 32, 0})
	_, l = Start(7, saved(three))
	same(t, "a stranger shouts, too", len(l), 4)
}

// A config on its way: who is in the new one alone has no part in standing, but votes.
func TestTwoConfigs(t *testing.T) {
	k := saved(" 0p1g0 1p1g0 2p1g0", z(1, 1))
	k.History.Log[0].Parts = []api.Part{{Kind: api.PartConfig, Config: parse(" 0p1g0 3p1g0")}}
	p, l := Start(3, k)
	same(t, "it does not stand", []any{p.Seek.Now.Cand, len(l)}, []any{-1, 3})
	p, _ = hear(p, vote(0, api.Looking, 1, 16, 0, z(1, 1)))
	same(t, "it votes", []any{p.Seek.Now.Cand, len(p.Seek.Heard)}, []any{0, 2})
	p, _ = hear(p, vote(1, api.Looking, 1, 99, 3, z(1, 1)))
	same(t, "but not for itself", p.Seek.Now.Cand, 0)
	p, l2 := tick(p)
	same(t, "no quorum of the old one", []any{p.Mode, len(l2)}, []any{api.Looking, 3})
	p, _ = hear(p, vote(2, api.Looking, 1, 16, 0, z(1, 1)))
	p, l2 = tick(p)
	same(t, "a quorum of both", []any{p.Mode, p.Leader, l2}, []any{api.Learning, 0, []string{"2>0"}})
}

// P23.3, P23.6
func TestTick(t *testing.T) {
	p := started(0, three, z(1, 1))
	for n := 1; n < 17; n++ {
		var l []string
		p, l = tick(p)
		same(t, "a tick of one that looks", []any{p.Wait, p.Seek.Round, len(l)}, []any{n, 1, 3})
	}
	p, l := tick(p)
	same(t, "it looks anew", []any{p.Wait, p.Seek.Round, len(l)}, []any{0, 2, 3})
	p, l = hear(p, vote(1, api.Looking, 2, 16, 0, z(1, 1)))
	same(t, "won, but not yet chosen", []any{p.Mode, len(l)}, []any{api.Looking, 0})
	p, l = tick(p)
	same(t, "it leads", []any{p.Mode, p.Phase, p.Leader, len(l)}, []any{api.Leading, 1, 0, 0})
	for n := 1; n < 9; n++ {
		p, _ = tick(p)
	}
	p, l = tick(p)
	same(t, "it gives up", []any{p.Mode, p.Leader, p.Seek.Round, len(l)}, []any{api.Looking, -1, 3, 3})
	q, _ := hear(started(3, three), vote(2, api.Looking, 1, 16, 2, z(1, 1)))
	q, _ = hear(q, vote(1, api.Looking, 1, 16, 2, z(1, 1)))
	q, _ = tick(q)
	same(t, "an observer chooses nobody", q.Mode, api.Looking)
	p = learner(1)
	p, l = tick(p)
	same(t, "a tick of one that learns", []any{p.Wait, l}, []any{1, []string{"2>2"}})
	alone := saved(" 0p1g0")
	alone.Accepted = api.MaxCount
	p, _ = Start(0, alone)
	p, _ = tick(p)
	same(t, "no epoch is left", p.Mode, api.Looking)
}

// P23.4
func TestVotes(t *testing.T) {
	p := started(0, three, z(1, 1))
	for i, m := range []api.Msg{vote(0, api.Leading, 1, 1, 0, z(1, 1)), vote(16, api.Leading, 1, 1, 16, z(1, 1)), vote(-1, api.Leading, 1, 1, -1, z(1, 1)), {From: 1, Kind: api.MsgVote, At: z(1, 1)}, vote(1, 0, 1, 1, 1, z(1, 1)), vote(1, 4, 1, 1, 1, z(1, 1)),
		vote(1, api.Leading, 1, 99, 2, z(1, 1)), vote(1, api.Learning, 9, 99, 0, z(1, 1)), vote(1, api.Learning, 9, 99, 16, z(1, 1)), vote(1, api.Learning, 9, 99, -1, z(1, 1)), vote(3, api.Looking, 9, 99, 0, z(1, 1))} {
		q, l := hear(p, m)
		same(t, fmt.Sprint("a vote that changes nothing ", i), []any{q, l}, []any{p, []string{}})
	}
	m := vote(1, api.Leading, 5, 99, 1, z(1, 1))
	m.At = z(1, 1)
	q, l := hear(p, m)
	same(t, "what is committed", []any{q.Done, q.Mode, q.Seek.Round, len(l)}, []any{z(1, 1), api.Looking, 2, 3})
	m.At = z(1, 2)
	q, l = hear(p, m)
	same(t, "of one that leads", []any{q.Done, q.Mode, q.Leader, l}, []any{z(0, 0), api.Learning, 1, []string{"2>1"}})
	q, l = hear(p, vote(1, api.Learning, 9, 99, 3, z(1, 1)))
	same(t, "of one that learns", []any{q, l}, []any{p, []string{"1>3 0 r1 e16 {1 1} for 0 mode 1 at {0 0}"}})
	q, l = hear(p, vote(1, api.Looking, 1, 16, 1, z(1, 1)))
	same(t, "of one that looks, and is better", []any{q.Seek.Now.Cand, len(l)}, []any{1, 3})
	q, l = hear(p, vote(1, api.Looking, 0, 99, 1, z(1, 1)))
	same(t, "an older round", []any{q, l}, []any{p, []string{"1>1 0 r1 e16 {1 1} for 0 mode 1 at {0 0}"}})
	q, l = hear(p, vote(1, api.Looking, 1, 99, 3, z(1, 1)))
	same(t, "for one that does not stand", []any{q, l}, []any{p, []string{}})
}

func TestDisturbed(t *testing.T) {
	own := "1>1 0 r1 e18 {1 1} for 2 mode 3 at {0 0}"
	p := learner(3)
	q, l := hear(p, vote(1, api.Looking, 1, 16, 1, z(1, 1)))
	same(t, "another one looks", []any{q, l}, []any{p, []string{own}})
	for _, mode := range []int{api.Leading, api.Learning, 0} {
		q, l = hear(p, vote(2, mode, 1, 16, 2, z(1, 1)))
		same(t, "a vote of another mode", []any{q, l}, []any{p, []string{}})
	}
	for phase := 2; phase < 4; phase++ {
		q, l = hear(learner(phase), vote(2, api.Looking, 9, 16, 2, z(1, 1)))
		same(t, "its leader looks", []any{q.Mode, q.Leader, q.Phase, q.Epoch, q.Seek.Round, len(l)}, []any{api.Looking, -1, 0, 0, 2, 3})
	}
	q, l = hear(learner(1), vote(2, api.Looking, 1, 16, 2, z(1, 1)))
	same(t, "its leader votes for itself", []any{q, l}, []any{learner(1), []string{"1>2 0 r1 e16 {1 1} for 2 mode 3 at {0 0}"}})
	m := vote(2, api.Looking, 1, 16, 1, z(1, 1))
	m.At = z(1, 1)
	q, l = hear(learner(1), m)
	same(t, "its leader votes for another", []any{q.Mode, q.Leader, q.Phase, q.Seek.Round, q.Seek.Now.Cand, q.Done, len(l)}, []any{api.Looking, -1, 0, 1, 1, z(0, 0), 3})
	lead, _ := tick(func() api.Peer {
		p, _ := hear(started(0, three), vote(1, api.Looking, 1, 16, 0, z(0, 0)))
		return p
	}())
	q, l = hear(lead, vote(1, api.Looking, 7, 99, 1, z(9, 9)))
	same(t, "one that leads", []any{q, l}, []any{lead, []string{"1>1 0 r1 e16 {0 0} for 0 mode 2 at {0 0}"}})
}

// P23.5, P23.6
func TestInputs(t *testing.T) {
	p := learner(3)
	q, l := Step(p, api.Input{Kind: api.InMsg, Msg: api.Msg{From: 2, To: 1, Kind: api.MsgPing, Epoch: 18}})
	same(t, "to another", []any{q, len(l)}, []any{p, 0})
	_, s := hear(p, api.Msg{From: 2, Kind: api.MsgPing, Epoch: 18})
	same(t, "one that learns hears", s, []string{"13>2"})
	looks := started(0, three)
	q, s = hear(looks, api.Msg{From: 2, Kind: api.MsgPing})
	same(t, "one that looks does not", []any{q, s}, []any{looks, []string{}})
	for i, in := range []api.Input{{Kind: 0}, {Kind: 5}, {Kind: api.InPropose, Txn: api.Txn{At: z(18, 1)}}, {Kind: api.InLost, Node: 1}} {
		q, l = Step(p, in)
		same(t, fmt.Sprint("an input that changes nothing ", i), []any{q, len(l)}, []any{p, 0})
		q, l = Step(looks, in)
		same(t, fmt.Sprint("nor of one that looks ", i), []any{q, len(l)}, []any{looks, 0})
	}
	q, l = Step(p, api.Input{Kind: api.InLost, Node: 2})
	same(t, "its leader is lost", []any{q.Mode, q.Seek.Round, len(l)}, []any{api.Looking, 2, 3})
	alone := started(0, " 0p1g0")
	q, l = Step(alone, api.Input{Kind: api.InPropose, Txn: api.Txn{At: z(32, 1)}})
	same(t, "a transaction", []any{q.Done, len(l)}, []any{z(32, 1), 0})
	q, _ = Step(q, api.Input{Kind: api.InLost, Node: 2})
	same(t, "a link of one that leads", q.Mode, api.Leading)
	same(t, "its history", len(history.Marks(q.History)), 2)
	drop := api.Txn{At: z(32, 2), Parts: []api.Part{{Kind: api.PartConfig, Config: parse(" 0o1g0 1p1g0")}}}
	q, l = Step(q, api.Input{Kind: api.InPropose, Txn: drop})
	same(t, "it needs the other one now", []any{q.Mode, q.Done, len(l)}, []any{api.Leading, z(32, 1), 0})
}
