// Package own lays things of package api anew: what is answered shares no memory with what was given.
package own

import (
	"slices"

	"witan/api"
)

// List: l, each of its things laid anew by one.
func List[T any](l []T, one func(T) T) []T {
	if len(l) == 0 {
		return nil
	}
	out := make([]T, len(l))
	for i, x := range l {
		out[i] = one(x)
	}
	return out
}

// Config: c in new memory.
func Config(c api.Config) api.Config {
	c.Members = slices.Clone(c.Members)
	return c
}

// State: s in new memory.
func State(s api.State) api.State {
	s.Nodes = slices.Clone(s.Nodes)
	s.Sessions = slices.Clone(s.Sessions)
	s.Config = Config(s.Config)
	return s
}

func part(p api.Part) api.Part {
	p.Config = Config(p.Config)
	return p
}

// Txn: t in new memory.
func Txn(t api.Txn) api.Txn {
	t.Parts = List(t.Parts, part)
	return t
}

// Txns: l in new memory.
func Txns(l []api.Txn) []api.Txn {
	return List(l, Txn)
}

// History: h in new memory.
func History(h api.History) api.History {
	return api.History{Image: State(h.Image), Log: Txns(h.Log)}
}

// Saved: s in new memory.
func Saved(s api.Saved) api.Saved {
	s.History = History(s.History)
	return s
}

// Request: r in new memory.
func Request(r api.Request) api.Request {
	r.Ops = slices.Clone(r.Ops)
	r.Delta.Put = slices.Clone(r.Delta.Put)
	r.Delta.Drop = slices.Clone(r.Delta.Drop)
	return r
}

// Plan: p in new memory.
func Plan(p api.Plan) api.Plan {
	p.Image = State(p.Image)
	p.Log = Txns(p.Log)
	return p
}

// Msg: m in new memory.
func Msg(m api.Msg) api.Msg {
	m.Marks = slices.Clone(m.Marks)
	m.Plan = Plan(m.Plan)
	m.Txn = Txn(m.Txn)
	m.Touched = slices.Clone(m.Touched)
	m.Ask = Request(m.Ask)
	return m
}

// Learner: l in new memory.
func Learner(l api.Learner) api.Learner {
	l.Marks = slices.Clone(l.Marks)
	return l
}

func file(f api.File) api.File {
	f.Data = slices.Clone(f.Data)
	return f
}

// Disk: d in new memory.
func Disk(d api.Disk) api.Disk {
	d.Files = List(d.Files, file)
	return d
}

// Word: w in new memory.
func Word(w api.Word) api.Word {
	w.Ask = Request(w.Ask)
	w.Names = slices.Clone(w.Names)
	return w
}

// Peer: p in new memory.
func Peer(p api.Peer) api.Peer {
	p.History = History(p.History)
	p.Seek.Heard = slices.Clone(p.Seek.Heard)
	p.Learners = List(p.Learners, Learner)
	return p
}

// Server: s in new memory.
func Server(s api.Server) api.Server {
	s.Disk = Disk(s.Disk)
	s.Saved = Saved(s.Saved)
	s.Peer = Peer(s.Peer)
	s.State = State(s.State)
	s.Watches = slices.Clone(s.Watches)
	s.Conns = slices.Clone(s.Conns)
	s.Waits = slices.Clone(s.Waits)
	s.Seen = slices.Clone(s.Seen)
	s.Touched = slices.Clone(s.Touched)
	return s
}

// Client: c in new memory.
func Client(c api.Client) api.Client {
	c.Notes = slices.Clone(c.Notes)
	return c
}

// Fact: f in new memory.
func Fact(f api.Fact) api.Fact {
	f.Txn = Txn(f.Txn)
	f.Ask = Request(f.Ask)
	f.Word = Word(f.Word)
	return f
}

// World: w in new memory.
func World(w api.World) api.World {
	w.Config = Config(w.Config)
	w.Servers = List(w.Servers, Server)
	w.Mail = List(w.Mail, Msg)
	w.Cut = slices.Clone(w.Cut)
	w.Clients = List(w.Clients, Client)
	w.Words = List(w.Words, Word)
	w.Facts = List(w.Facts, Fact)
	return w
}
