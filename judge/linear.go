package judge

import (
	"slices"

	"witan/api"
	"witan/state"
	"witan/zxid"
)

// request is a client's request: who asked, by which number.
type request struct {
	node, xid int
}

// trial is facts that are looked at.
type trial struct {
	facts  []api.Fact
	log    []api.Txn
	states []api.State          // at first, and behind each transaction of log
	behind map[api.Zxid]int     // the first state that is up to a place
	done   map[api.Zxid]api.Txn // log's transaction at a place
	calls  map[request]int      // the first call of a request
	told   []api.Zxid           // the greatest place of what was told to be done in the first 0, 1, .. facts
	some   []bool               // whether anything was
	seen   [api.MaxClients]api.Zxid
}

// Linear: whether there is one order that makes all answers.
func Linear(c api.Config, l []api.Fact) bool {
	log, ok := Log(l)
	if !ok {
		return false
	}
	t := newTrial(c, l, log)
	for i, f := range l {
		if refused(f) {
			continue
		}
		switch f.Kind {
		case api.FactSeen:
			ok = t.rises(f.Node, f.Word.Note.At)
		case api.FactTold:
			ok = t.rises(f.Node, f.Word.At) && t.answered(i)
		}
		if !ok {
			return false
		}
	}
	return true
}

// refused: whether a server refused it by itself.
func refused(f api.Fact) bool {
	return f.Kind == api.FactTold && f.Word.Err == api.ErrArg && f.Word.At == api.Zxid{}
}

func newTrial(c api.Config, l []api.Fact, log []api.Txn) *trial {
	t := &trial{facts: l, log: log, states: []api.State{state.Start(c)}, behind: map[api.Zxid]int{{}: 0}, done: map[api.Zxid]api.Txn{}, calls: map[request]int{}}
	for i, u := range log {
		s := state.Apply(t.states[i], u)
		t.states = append(t.states, s)
		if _, there := t.behind[s.At]; !there {
			t.behind[s.At] = i + 1
		}
		t.done[u.At] = u
	}
	for i, f := range l {
		q := request{f.Node, f.Xid}
		if _, there := t.calls[q]; f.Kind == api.FactCall && !there {
			t.calls[q] = i
		}
	}
	t.gather()
	return t
}

// gather: what was told ahead of each fact to be done.
func (t *trial) gather() {
	var last api.Zxid
	some := false
	for _, f := range t.facts {
		t.told = append(t.told, last)
		t.some = append(t.some, some)
		if f.Kind != api.FactTold || refused(f) {
			continue
		}
		k, there := t.calls[request{f.Node, f.Xid}]
		if there && t.facts[k].Read != 0 {
			continue
		}
		if !some || zxid.Cmp(f.Word.At, last) > 0 {
			last, some = f.Word.At, true
		}
	}
}

// rises: what a client is told never goes back.
func (t *trial) rises(node int, z api.Zxid) bool {
	if node < 0 || node >= api.MaxClients {
		return true
	}
	was := t.seen[node]
	t.seen[node] = z
	return zxid.Cmp(z, was) >= 0
}

// answered: whether the i-th fact tells what there was to be told.
func (t *trial) answered(i int) bool {
	f := t.facts[i]
	k, there := t.calls[request{f.Node, f.Xid}]
	if !there || k > i {
		return false
	}
	if call := t.facts[k]; call.Read != 0 {
		return t.read(call, f.Word)
	}
	u, there := t.done[f.Word.At]
	if !there || u.Xid != f.Xid || u.Err != f.Word.Err || u.Made != f.Word.Made {
		return false
	}
	return !t.some[k] || zxid.Cmp(f.Word.At, t.told[k]) > 0
}

// read: whether the state at the answer's place makes the answer.
func (t *trial) read(call api.Fact, w api.Word) bool {
	n, there := t.behind[w.At]
	switch {
	case !there:
		return false
	case w.Err == api.ErrFull:
		return true
	case call.Read == api.ReadNode:
		z, e := state.Get(t.states[n], call.Path)
		return z == w.Node && e == w.Err
	}
	names, e := state.Kids(t.states[n], call.Path)
	return slices.Equal(names, w.Names) && e == w.Err
}
