package record

import (
	"witan/api"
	"witan/codec"
	"witan/fault"
)

// reader goes through bytes, and gives up at the first field that is wrong.
type reader struct {
	b  []byte
	at int
}

// read lets one go from the place at, and tells the place behind it, or with which error it gave up.
func read[T any](b []byte, at int, one func(*reader) T) (T, int, api.Errno) {
	var x, none T
	r := &reader{b, at}
	if e := fault.Try(func() { x = one(r) }); e != api.OK {
		return none, 0, e
	}
	return x, r.at, api.OK
}

func list[T any](r *reader, one func(*reader) T) []T {
	n := r.number()
	switch {
	case n < 0:
		fault.Give(api.ErrForm)
	case n > api.MaxLog:
		fault.Give(api.ErrLong)
	}
	var l []T
	for range n {
		l = append(l, one(r))
	}
	return l
}

func (r *reader) number() int {
	n, end, e := codec.Int(r.b, r.at)
	fault.Give(e)
	r.at = end
	return n
}

func (r *reader) text() string {
	s, end, e := codec.Text(r.b, r.at)
	fault.Give(e)
	r.at = end
	return s
}

func (r *reader) flag() bool {
	n := r.number()
	if n != 0 && n != 1 {
		fault.Give(api.ErrForm)
	}
	return n == 1
}

func (r *reader) zxid() (z api.Zxid) {
	z.Epoch = r.number()
	z.N = r.number()
	return z
}

func (r *reader) member() (m api.Member) {
	m.Id = r.number()
	m.Role = r.number()
	m.Weight = r.number()
	m.Group = r.number()
	return m
}

func (r *reader) config() (c api.Config) {
	c.At = r.zxid()
	c.Kind = r.number()
	c.Members = list(r, (*reader).member)
	return c
}

func (r *reader) node() (z api.Znode) {
	z.Path = r.text()
	z.Data = r.text()
	z.Version = r.number()
	z.Kids = r.number()
	z.Owner = r.number()
	return z
}

func (r *reader) part() (p api.Part) {
	p.Kind = r.number()
	p.Node = r.node()
	p.Session = r.number()
	p.Config = r.config()
	return p
}

func (r *reader) txn() (t api.Txn) {
	t.At = r.zxid()
	t.Session = r.number()
	t.Xid = r.number()
	t.Err = api.Errno(r.number())
	t.Bad = r.number()
	t.Made = r.text()
	t.Parts = list(r, (*reader).part)
	return t
}

func (r *reader) state() (s api.State) {
	s.Nodes = list(r, (*reader).node)
	s.Sessions = list(r, (*reader).number)
	s.Next = r.number()
	s.Config = r.config()
	s.At = r.zxid()
	return s
}

func (r *reader) op() (o api.Op) {
	o.Kind = r.number()
	o.Path = r.text()
	o.Data = r.text()
	o.Version = r.number()
	o.Owned = r.flag()
	o.Seq = r.flag()
	return o
}

func (r *reader) request() (q api.Request) {
	q.Kind = r.number()
	q.Session = r.number()
	q.Xid = r.number()
	q.Ops = list(r, (*reader).op)
	q.Delta.Kind = r.number()
	q.Delta.Put = list(r, (*reader).member)
	q.Delta.Drop = list(r, (*reader).number)
	q.Want = r.zxid()
	return q
}

func (r *reader) vote() (v api.Vote) {
	v.From = r.number()
	v.Round = r.number()
	v.Epoch = r.number()
	v.Last = r.zxid()
	v.Cand = r.number()
	v.Mode = r.number()
	return v
}

func (r *reader) plan() (p api.Plan) {
	p.Kind = r.number()
	p.Keep = r.zxid()
	p.Image = r.state()
	p.Log = list(r, (*reader).txn)
	return p
}

func (r *reader) msg() (m api.Msg) {
	m.From = r.number()
	m.To = r.number()
	m.Kind = r.number()
	m.Vote = r.vote()
	m.Epoch = r.number()
	m.Current = r.number()
	m.At = r.zxid()
	m.Marks = list(r, (*reader).zxid)
	m.Plan = r.plan()
	m.Txn = r.txn()
	m.Touched = list(r, (*reader).number)
	m.Ask = r.request()
	return m
}
