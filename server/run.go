package server

import (
	"slices"

	"witan/ack"
	"witan/api"
	"witan/disk"
	"witan/fault"
	"witan/history"
	"witan/keep"
	"witan/lead"
	"witan/own"
	"witan/peer"
	"witan/prep"
	"witan/reconf"
	"witan/session"
	"witan/state"
	"witan/watch"
	"witan/zxid"
)

// run is an event under way: the server, which is its own, and what it does.
type run struct {
	s   api.Server
	out api.Out
}

func (r *run) nothing(api.Event) {}

func (r *run) crash(e api.Event) {
	r.s = api.Server{Id: r.s.Id, Disk: disk.Crash(r.s.Disk, e.Keep)}
}

func (r *run) arm(e api.Event) {
	r.s.Disk = disk.Arm(r.s.Disk, e.Node)
}

func (r *run) room(e api.Event) {
	r.s.Disk.Cap = max(e.Node, 0)
}

func (r *run) start(e api.Event) {
	k, d, err := keep.Load(disk.Start(disk.Crash(r.s.Disk, e.Keep)))
	r.s.Disk = d
	if err != api.OK {
		return
	}
	r.settled(func() (api.Peer, []api.Msg) {
		r.s.Up, r.s.Saved, r.s.State = true, k, own.State(k.History.Image)
		r.out.Jump = append(r.out.Jump, r.s.State.At)
		return peer.Start(r.s.Id, k)
	})
}

func (r *run) msg(e api.Event) {
	m := e.Msg
	its := m.To == r.s.Id && m.Epoch == r.s.Peer.Epoch && r.s.Peer.Mode == api.Leading
	if m.Kind == api.MsgAsk {
		if its {
			r.lay(m.Ask)
		}
		return
	}
	if m.Kind == api.MsgPong && its {
		r.s.Seen = session.Touch(r.s.Seen, m.Touched, api.Span)
	}
	r.step(api.Input{Kind: api.InMsg, Msg: m})
}

func (r *run) lost(e api.Event) {
	r.step(api.Input{Kind: api.InLost, Node: e.Node})
}

func (r *run) tick(api.Event) {
	r.step(api.Input{Kind: api.InTick})
	if _, full := lead.Place(r.s.Peer); !r.s.Up || !full {
		return
	}
	s := &r.s
	s.Seen = session.Renew(s.Seen, behind(s.Peer.History).Sessions, api.Span)
	s.Seen = session.Touch(s.Seen, s.Touched, api.Span)
	s.Touched = nil
	var over []int
	s.Seen, over = session.Tick(s.Seen)
	for _, n := range over {
		if !s.Up {
			break
		}
		r.lay(api.Request{Kind: api.ReqClose, Session: n})
	}
}

// lay: one that leads in full broadcasts what is asked for.
func (r *run) lay(q api.Request) {
	p := r.s.Peer
	place, full := lead.Place(p)
	if !full {
		return
	}
	t := prep.Make(behind(p.History), q, place)
	if q.Kind == api.ReqConfig && t.Err == api.OK {
		if _, e := reconf.Ask(p.History, p.Done, p.Id, p.Learners, q); e != api.OK {
			t = api.Txn{At: place, Session: t.Session, Xid: t.Xid, Err: e}
		}
	}
	// Others may find what is laid down, even if this server falls over it.
	r.out.Made = append(r.out.Made, t)
	r.step(api.Input{Kind: api.InPropose, Txn: t})
}

// behind: the state behind a whole history.
func behind(h api.History) api.State {
	return history.StateAt(h, history.Last(h))
}

func (r *run) step(in api.Input) {
	r.settled(func() (api.Peer, []api.Msg) { return peer.Step(r.s.Peer, in) })
}

// settled does a step of the protocol: what it makes of the server is kept first; if that cannot be, it is down, and does nothing of it.
func (r *run) settled(do func() (api.Peer, []api.Msg)) {
	was, out := r.s, r.out
	e := fault.Try(func() {
		p, msgs := do()
		h := p.History
		r.keep(squashed(p))
		r.send(msgs)
		r.does(h)
		r.dismiss(was)
	})
	if e != api.OK {
		r.s, r.out = api.Server{Id: was.Id, Disk: r.s.Disk}, out
	}
}

// squashed: p, with what is committed of a long log in its image.
func squashed(p api.Peer) api.Peer {
	if len(p.History.Log) > api.Roomy && zxid.Cmp(p.Done, history.Base(p.History)) > 0 {
		p.History, _ = history.Squash(p.History, p.Done)
	}
	return p
}

// keep lays down what p has other than what is kept.
func (r *run) keep(p api.Peer) {
	r.s.Peer = p
	now := api.Saved{Accepted: p.Accepted, Current: p.Current, History: p.History, Gen: r.s.Saved.Gen}
	if keep.Same(now, r.s.Saved) {
		return
	}
	d, kept, e := keep.Save(r.s.Disk, r.s.Saved, now)
	r.s.Disk = d
	fault.Give(e)
	r.s.Saved = kept
}

// send: who was heard goes with what is sent to the leader.
func (r *run) send(l []api.Msg) {
	told := false
	for _, m := range l {
		if m.Kind == api.MsgPong {
			m.Touched = slices.Clone(r.s.Touched)
			told = true
		}
		r.out.Msgs = append(r.out.Msgs, m)
	}
	if told {
		r.s.Touched = nil
	}
}

// does: the state goes on as far as h is committed.
func (r *run) does(h api.History) {
	if zxid.Cmp(history.Base(h), r.s.State.At) > 0 {
		r.become(own.State(h.Image))
		r.out.Jump = append(r.out.Jump, r.s.State.At)
	}
	for _, t := range ack.Committed(h, r.s.State.At, r.s.Peer.Done) {
		r.become(state.Apply(r.s.State, t))
		r.answer(t)
		for _, p := range t.Parts {
			if p.Kind == api.PartClose {
				r.over(p.Session)
			}
		}
		r.out.Done = append(r.out.Done, t)
	}
}

// become: the state is now; the watches are told.
func (r *run) become(now api.State) {
	var notes []api.Note
	r.s.Watches, notes = watch.Fire(r.s.Watches, r.s.State, now)
	r.s.State = now
	for _, n := range notes {
		for _, c := range r.s.Conns {
			if c.Session == n.Session {
				r.tell(api.Word{Client: c.Client, Kind: api.TellNote, Note: n})
			}
		}
	}
}

// dismiss: whoever was served by what this server is no more has to come again.
func (r *run) dismiss(was api.Server) {
	p := r.s.Peer
	if Serves(was) && (!Serves(r.s) || p.Mode != was.Peer.Mode || p.Epoch != was.Peer.Epoch) {
		for _, c := range r.s.Conns {
			r.refuse(c.Client, api.ErrLeader)
		}
		r.s.Conns, r.s.Waits, r.s.Watches, r.s.Touched = nil, nil, nil, nil
	}
	if p.Mode != api.Leading {
		r.s.Seen = nil
	}
}
