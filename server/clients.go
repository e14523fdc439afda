package server

import (
	"slices"

	"witan/api"
	"witan/own"
	"witan/state"
	"witan/watch"
	"witan/zxid"
)

func (r *run) gone(e api.Event) {
	r.part(e.Node)
}

func (r *run) word(e api.Event) {
	w := e.Word
	if w.Server != r.s.Id {
		return
	}
	if w.Kind == api.SayHello {
		r.hello(w)
		return
	}
	c, there := r.conn(w.Client)
	switch {
	case !there:
		r.refuse(w.Client, api.ErrSession)
		return
	case c.Session == 0:
		return
	}
	r.touch(c.Session)
	switch w.Kind {
	case api.SayAsk:
		r.ask(c, w)
	case api.SayRead:
		r.read(c, w)
	}
}

func (r *run) hello(w api.Word) {
	r.part(w.Client)
	switch {
	case !Serves(r.s):
		r.refuse(w.Client, api.ErrLeader)
		return
	case zxid.Cmp(w.At, r.s.State.At) > 0:
		r.refuse(w.Client, api.ErrBehind)
		return
	case w.Session != 0 && !slices.Contains(r.s.State.Sessions, w.Session):
		r.refuse(w.Client, api.ErrSession)
		return
	}
	r.s.Conns = append(r.s.Conns, api.Conn{Client: w.Client, Session: w.Session, Xid: w.Xid})
	if w.Session == 0 {
		r.goItsWay(w.Client, api.Request{Kind: api.ReqOpen, Xid: w.Xid})
		return
	}
	r.touch(w.Session)
	r.tell(api.Word{Client: w.Client, Kind: api.TellOpen, Session: w.Session, At: r.s.State.At})
}

func (r *run) ask(c api.Conn, w api.Word) {
	q := own.Request(w.Ask)
	if q.Kind == api.ReqOpen || q.Xid < 1 {
		r.tell(api.Word{Client: c.Client, Kind: api.TellDone, Xid: q.Xid, Err: api.ErrArg})
		return
	}
	q.Session = c.Session
	r.goItsWay(c.Client, q)
}

// goItsWay: the client waits for what it asks for, which one that leads lays, and another one hands on.
func (r *run) goItsWay(client int, q api.Request) {
	r.s.Waits = append(r.s.Waits, api.Wait{Client: client, Xid: q.Xid})
	if r.s.Peer.Mode == api.Leading {
		r.lay(q)
		return
	}
	r.out.Msgs = append(r.out.Msgs, api.Msg{From: r.s.Id, To: r.s.Peer.Leader, Kind: api.MsgAsk, Epoch: r.s.Peer.Epoch, Ask: q})
}

func (r *run) read(c api.Conn, w api.Word) {
	a := api.Word{Client: c.Client, Kind: api.TellRead, Xid: w.Xid, At: r.s.State.At}
	kind := api.WatchData
	switch w.Read {
	case api.ReadNode:
		a.Node, a.Err = state.Get(r.s.State, w.Path)
	case api.ReadKids:
		kind = api.WatchKids
		a.Names, a.Err = state.Kids(r.s.State, w.Path)
	default:
		a.Err = api.ErrArg
	}
	if w.Watch && (a.Err == api.OK || a.Err == api.ErrNone) {
		l, e := watch.Add(r.s.Watches, api.Watch{Session: c.Session, Kind: kind, Path: w.Path})
		if e != api.OK {
			a.Err, a.Node, a.Names = e, api.Znode{}, nil
		} else {
			r.s.Watches = l
		}
	}
	r.tell(a)
}

// answer: whoever waits for t is told how it ended.
func (r *run) answer(t api.Txn) {
	if t.Xid == 0 {
		return
	}
	asked := slices.Clone(r.s.Waits)
	its := func(w api.Wait) bool { return w.Xid == t.Xid }
	r.s.Waits = slices.DeleteFunc(r.s.Waits, its)
	for _, w := range asked {
		if c, there := r.conn(w.Client); there && its(w) {
			r.end(c, t)
		}
	}
}

// end: t is what the client of c waited for.
func (r *run) end(c api.Conn, t api.Txn) {
	switch {
	case c.Session != 0 || c.Xid != t.Xid:
		r.tell(api.Word{Client: c.Client, Kind: api.TellDone, Xid: t.Xid, Err: t.Err, Made: t.Made, At: t.At})
	case t.Err != api.OK:
		r.refuse(c.Client, t.Err)
		r.part(c.Client)
	default:
		c.Session = t.Session
		r.s.Conns = append(r.others(c.Client), c)
		r.touch(c.Session)
		r.tell(api.Word{Client: c.Client, Kind: api.TellOpen, Session: c.Session, At: t.At})
	}
}

// over: the session is closed.
func (r *run) over(session int) {
	r.s.Watches = watch.Drop(r.s.Watches, session)
	for _, c := range slices.Clone(r.s.Conns) {
		if c.Session == session {
			r.refuse(c.Client, api.ErrSession)
			r.part(c.Client)
		}
	}
}

// part: the client's connection, what it waits for, and its session's watches go.
func (r *run) part(client int) {
	if c, there := r.conn(client); there {
		r.s.Watches = watch.Drop(r.s.Watches, c.Session)
	}
	r.s.Conns = r.others(client)
	r.s.Waits = slices.DeleteFunc(r.s.Waits, func(w api.Wait) bool { return w.Client == client })
}

func (r *run) conn(client int) (api.Conn, bool) {
	for _, c := range r.s.Conns {
		if c.Client == client {
			return c, true
		}
	}
	return api.Conn{}, false
}

// others: the connections of all other clients.
func (r *run) others(client int) []api.Conn {
	return slices.DeleteFunc(slices.Clone(r.s.Conns), func(c api.Conn) bool { return c.Client == client })
}

// touch: the session was heard of.
func (r *run) touch(session int) {
	if !slices.Contains(r.s.Touched, session) {
		r.s.Touched = append(r.s.Touched, session)
	}
}

func (r *run) refuse(client int, e api.Errno) {
	r.tell(api.Word{Client: client, Kind: api.TellNo, Err: e})
}

func (r *run) tell(w api.Word) {
	w.Server = r.s.Id
	r.out.Words = append(r.out.Words, w)
}
