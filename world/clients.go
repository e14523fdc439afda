package world

import (
	"slices"

	"witan/api"
	"witan/client"
	"witan/own"
)

// actOf: an act of a client.
func (r *run) actOf(a api.Act) {
	if !r.isClient(a.A) {
		return
	}
	switch a.Kind {
	case api.ActLeave:
		r.leave(a.A)
	case api.ActConnect:
		r.connect(a.A, a.B)
	case api.ActAsk:
		r.ask(a)
	case api.ActRead:
		r.read(a)
	case api.ActBeat:
		r.w.Words = append(r.w.Words, client.Beat(r.w.Clients[a.A])...)
	}
}

func (r *run) leave(id int) {
	was := r.w.Clients[id]
	r.part(id)
	if was.Phase != 0 {
		r.at(was.Server, api.Event{Kind: api.AtGone, Node: id})
		r.silence(id)
	}
}

func (r *run) connect(id, to int) {
	if !r.isServer(to) {
		return
	}
	r.leave(id)
	c, words, results := client.Connect(r.w.Clients[id], to)
	r.w.Clients[id] = c
	r.w.Words = append(r.w.Words, words...)
	r.results(results)
}

func (r *run) ask(a api.Act) {
	c, q := r.w.Clients[a.A], own.Request(a.Ask)
	if q.Kind == api.ReqConfig && a.N == 1 && r.isServer(c.Server) {
		q.Want = r.w.Servers[c.Server].State.Config.At
	}
	c, words, e := client.Ask(c, q)
	if e == api.OK {
		r.called(a.A, c, words, api.Fact{Ask: q})
	}
}

func (r *run) read(a api.Act) {
	c, words, e := client.Read(r.w.Clients[a.A], a.N, a.Path, a.Watch)
	if e == api.OK {
		r.called(a.A, c, words, api.Fact{Read: a.N, Path: a.Path})
	}
}

// called: a request, or a read, of which f tells is under way.
func (r *run) called(id int, c api.Client, words []api.Word, f api.Fact) {
	r.w.Clients[id] = c
	r.w.Words = append(r.w.Words, words...)
	f.Kind, f.Node, f.Xid = api.FactCall, id, c.Waits
	r.fact(f)
}

// part: a client is parted.
func (r *run) part(id int) {
	r.silence(id)
	c, results := client.Lost(r.w.Clients[id])
	r.w.Clients[id] = c
	r.results(results)
}

// silence: no word of the client is on the way any more.
func (r *run) silence(id int) {
	r.w.Words = slices.DeleteFunc(r.w.Words, func(w api.Word) bool { return w.Client == id })
}

func (r *run) results(l []api.Result) {
	for _, x := range l {
		f := api.Fact{Kind: api.FactTold, Node: x.Client, Xid: x.Xid, Word: x.Word}
		if x.Unknown {
			f = api.Fact{Kind: api.FactLost, Node: x.Client, Xid: x.Xid}
		}
		r.fact(f)
	}
}
