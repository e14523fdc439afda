package world

import (
	"slices"

	"witan/api"
	"witan/client"
	"witan/link"
	"witan/server"
)

// Limits of a calm.
const (
	mostRounds = 200
	mostComes  = 4000 // of all that comes at once
)

// run is a world to which something happens; it is the run's own.
type run struct {
	w api.World
}

func (r *run) act(a api.Act) {
	switch a.Kind {
	case api.ActCome:
		r.come(a.N)
	case api.ActSay:
		r.say(a.N)
	case api.ActTick:
		r.at(a.A, api.Event{Kind: api.AtTick})
	case api.ActReset, api.ActCut, api.ActHeal:
		r.link(a)
	case api.ActCrash:
		r.at(a.A, api.Event{Kind: api.AtCrash, Keep: a.Keep})
	case api.ActStart:
		r.at(a.A, api.Event{Kind: api.AtStart, Keep: a.Keep})
	case api.ActArm:
		r.at(a.A, api.Event{Kind: api.AtArm, Node: a.N})
	case api.ActRoom:
		r.at(a.A, api.Event{Kind: api.AtRoom, Node: a.N})
	case api.ActCalm:
		r.calm(min(max(a.N, 0), mostRounds))
	default:
		r.actOf(a)
	}
}

// at: something happens at a server.
func (r *run) at(id int, e api.Event) {
	if !r.isServer(id) {
		return
	}
	was := r.w.Servers[id].Up
	s, out := server.Step(r.w.Servers[id], e)
	r.w.Servers[id] = s
	r.write(id, out)
	r.w.Words = append(r.w.Words, out.Words...)
	var lost []api.Pair
	if len(out.Msgs) > 0 {
		r.w.Mail, lost = link.Send(r.w.Mail, out.Msgs, r.w.Cut)
	}
	if was && !s.Up {
		r.fell(id)
	}
	for _, p := range lost {
		r.lost(p.A, p.B)
	}
}

func (r *run) write(id int, out api.Out) {
	for _, z := range out.Jump {
		r.fact(api.Fact{Kind: api.FactJump, Node: id, At: z})
	}
	for _, t := range out.Made {
		r.fact(api.Fact{Kind: api.FactMade, Node: id, Epoch: t.At.Epoch, Txn: t})
	}
	for _, t := range out.Done {
		r.fact(api.Fact{Kind: api.FactDone, Node: id, Txn: t})
	}
}

func (r *run) fact(f api.Fact) {
	r.w.Facts = append(r.w.Facts, f)
}

// fell: the server id is down now, and all that hung on it is lost.
func (r *run) fell(id int) {
	r.w.Mail = link.Alone(r.w.Mail, id)
	for k, c := range r.w.Clients {
		if c.Server == id && c.Phase != 0 {
			r.part(k)
		}
	}
	for other := range r.w.Servers {
		if other != id {
			r.at(other, api.Event{Kind: api.AtLost, Node: id})
		}
	}
}

// lost: both are told that their link is lost.
func (r *run) lost(a, b int) {
	r.at(a, api.Event{Kind: api.AtLost, Node: b})
	r.at(b, api.Event{Kind: api.AtLost, Node: a})
}

func (r *run) link(a api.Act) {
	if a.A == a.B || !r.isServer(a.A) || !r.isServer(a.B) {
		return
	}
	if a.Kind != api.ActReset {
		r.w.Cut = link.Set(r.w.Cut, a.A, a.B, a.Kind == api.ActCut)
	}
	if a.Kind != api.ActHeal {
		r.w.Mail = link.Reset(r.w.Mail, a.A, a.B)
		r.lost(a.A, a.B)
	}
}

// come: whether the n-th message that may come was there; it comes.
func (r *run) come(n int) bool {
	m, rest, ok := link.Take(r.w.Mail, n)
	if ok {
		r.w.Mail = rest
		r.at(m.To, api.Event{Kind: api.AtMsg, Msg: m})
	}
	return ok
}

// say: whether the n-th word that may come was there; it goes.
func (r *run) say(n int) bool {
	firsts := firstWords(r.w.Words)
	if n < 0 || n >= len(firsts) {
		return false
	}
	w := r.w.Words[firsts[n]]
	r.w.Words = slices.Delete(r.w.Words, firsts[n], firsts[n]+1)
	switch {
	case w.Kind < api.TellOpen:
		r.at(w.Server, api.Event{Kind: api.AtWord, Word: w})
	case r.isClient(w.Client):
		r.hear(w)
	}
	return true
}

// firstWords: the places of the words ahead of which none goes the same way.
func firstWords(l []api.Word) []int {
	var firsts []int
words:
	for i, w := range l {
		for _, k := range firsts {
			x := l[k]
			if x.Client == w.Client && x.Server == w.Server && (x.Kind < api.TellOpen) == (w.Kind < api.TellOpen) {
				continue words
			}
		}
		firsts = append(firsts, i)
	}
	return firsts
}

func (r *run) hear(w api.Word) {
	was := r.w.Clients[w.Client]
	c, results := client.Hear(was, w)
	r.w.Clients[w.Client] = c
	if len(c.Notes) > len(was.Notes) {
		r.fact(api.Fact{Kind: api.FactSeen, Node: w.Client, Word: w})
	}
	r.results(results)
}

func (r *run) calm(rounds int) {
	for range rounds {
		r.all()
		for id := range r.w.Servers {
			r.at(id, api.Event{Kind: api.AtTick})
		}
		for _, c := range r.w.Clients {
			r.w.Words = append(r.w.Words, client.Beat(c)...)
		}
	}
	r.all()
}

// all: all comes, messages ahead of words.
func (r *run) all() {
	for range mostComes {
		if !r.come(0) && !r.say(0) {
			return
		}
	}
}

func (r *run) isServer(id int) bool {
	return id >= 0 && id < len(r.w.Servers)
}

func (r *run) isClient(id int) bool {
	return id >= 0 && id < len(r.w.Clients)
}
