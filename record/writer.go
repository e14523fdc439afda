package record

import (
	"slices"

	"witan/api"
	"witan/codec"
)

// writer lays things behind bytes that are its own.
type writer struct {
	b []byte
}

func put[T any](b []byte, x T, one func(*writer, T)) []byte {
	w := &writer{slices.Clone(b)}
	one(w, x)
	return w.b
}

func putList[T any](w *writer, l []T, one func(*writer, T)) {
	w.number(len(l))
	for _, x := range l {
		one(w, x)
	}
}

func (w *writer) number(n int) {
	w.b = append(w.b, codec.PutInt(nil, n)...)
}

func (w *writer) numbers(l ...int) {
	for _, n := range l {
		w.number(n)
	}
}

func (w *writer) text(s string) {
	w.b = append(w.b, codec.PutText(nil, s)...)
}

func (w *writer) flag(is bool) {
	if is {
		w.number(1)
	} else {
		w.number(0)
	}
}

func (w *writer) zxid(z api.Zxid) {
	w.numbers(z.Epoch, z.N)
}

func (w *writer) member(m api.Member) {
	w.numbers(m.Id, m.Role, m.Weight, m.Group)
}

func (w *writer) config(c api.Config) {
	w.zxid(c.At)
	w.number(c.Kind)
	putList(w, c.Members, (*writer).member)
}

func (w *writer) node(z api.Znode) {
	w.text(z.Path)
	w.text(z.Data)
	w.numbers(z.Version, z.Kids, z.Owner)
}

func (w *writer) part(p api.Part) {
	w.number(p.Kind)
	w.node(p.Node)
	w.number(p.Session)
	w.config(p.Config)
}

func (w *writer) txn(t api.Txn) {
	w.zxid(t.At)
	w.numbers(t.Session, t.Xid, int(t.Err), t.Bad)
	w.text(t.Made)
	putList(w, t.Parts, (*writer).part)
}

func (w *writer) state(s api.State) {
	putList(w, s.Nodes, (*writer).node)
	putList(w, s.Sessions, (*writer).number)
	w.number(s.Next)
	w.config(s.Config)
	w.zxid(s.At)
}

func (w *writer) op(o api.Op) {
	w.number(o.Kind)
	w.text(o.Path)
	w.text(o.Data)
	w.number(o.Version)
	w.flag(o.Owned)
	w.flag(o.Seq)
}

func (w *writer) request(r api.Request) {
	w.numbers(r.Kind, r.Session, r.Xid)
	putList(w, r.Ops, (*writer).op)
	w.number(r.Delta.Kind)
	putList(w, r.Delta.Put, (*writer).member)
	putList(w, r.Delta.Drop, (*writer).number)
	w.zxid(r.Want)
}

func (w *writer) vote(v api.Vote) {
	w.numbers(v.From, v.Round, v.Epoch)
	w.zxid(v.Last)
	w.numbers(v.Cand, v.Mode)
}

func (w *writer) plan(p api.Plan) {
	w.number(p.Kind)
	w.zxid(p.Keep)
	w.state(p.Image)
	putList(w, p.Log, (*writer).txn)
}

func (w *writer) msg(m api.Msg) {
	w.numbers(m.From, m.To, m.Kind)
	w.vote(m.Vote)
	w.numbers(m.Epoch, m.Current)
	w.zxid(m.At)
	putList(w, m.Marks, (*writer).zxid)
	w.plan(m.Plan)
	w.txn(m.Txn)
	putList(w, m.Touched, (*writer).number)
	w.request(m.Ask)
}
