package history

import (
	"fmt"
	"math/rand"
	"testing"

	"witan/api"
	"witan/state"
)

func same(t *testing.T, what string, got, want any) {
	t.Helper()
	if a, b := fmt.Sprint(got), fmt.Sprint(want); a != b {
		t.Errorf("%s: %s, want %s", what, a, b)
	}
}

func z(epoch, n int) api.Zxid { return api.Zxid{Epoch: epoch, N: n} }

func conf(kind int) api.Config {
	return api.Config{Kind: kind, Members: []api.Member{{Id: kind, Role: 1}}}
}

// txn: it makes a node of its own place, so that what was done can be seen.
func txn(at api.Zxid, l ...api.Part) api.Txn {
	return api.Txn{At: at, Parts: append([]api.Part{{Kind: api.PartPut, Node: api.Znode{Path: fmt.Sprintf("/%d.%d", at.Epoch, at.N)}}}, l...)}
}

func txns(l ...api.Zxid) []api.Txn {
	var out []api.Txn
	for _, at := range l {
		out = append(out, txn(at))
	}
	return out
}

func of(l ...api.Zxid) api.History {
	return api.History{Image: state.Start(conf(1)), Log: txns(l...)}
}

func places(l []api.Txn) []api.Zxid {
	var out []api.Zxid
	for _, t := range l {
		out = append(out, t.At)
	}
	return out
}

// P16.1
func TestMarks(t *testing.T) {
	h := of(z(1, 1), z(1, 2), z(3, 1))
	h.Image.At = z(1, 0)
	same(t, "Base, Last, Marks", []any{Base(h), Last(h), Marks(h)}, []any{z(1, 0), z(3, 1), []api.Zxid{z(1, 0), z(1, 1), z(1, 2), z(3, 1)}})
	same(t, "of no transactions", []any{Last(of()), Marks(of())}, []any{z(0, 0), []api.Zxid{{}}})
	same(t, "Check", []bool{Check(h), Check(of()), Check(of(z(1, 1), z(1, 1))), Check(of(z(2, 1), z(1, 5))), Check(of(z(0, 0)))}, []bool{true, true, false, false, false})
	o := Own(h)
	same(t, "Own", []bool{Same(o, h), Same(h, of()), Same(h, of(z(1, 1), z(1, 2), z(3, 1)))}, []bool{true, false, false})
	o.Log[0].Parts[0].Kind, o.Image.Config.Members[0].Id = 9, 9
	same(t, "Own's memory", []any{h.Log[0].Parts[0].Kind, h.Image.Config.Members[0].Id}, []any{api.PartPut, 1})
	same(t, "SamePlan", []bool{SamePlan(api.Plan{Log: h.Log}, api.Plan{Log: h.Log}), SamePlan(api.Plan{Kind: 1}, api.Plan{}), SamePlan(api.Plan{Keep: z(1, 1)}, api.Plan{}), SamePlan(api.Plan{Image: h.Image}, api.Plan{}), SamePlan(api.Plan{Log: h.Log}, api.Plan{Log: h.Log[1:]})},
		[]bool{true, false, false, false, false})
}

// P16.2
func TestUptoGrow(t *testing.T) {
	h := of(z(1, 1), z(1, 2), z(3, 1))
	for i, at := range Marks(h) {
		got, e := Upto(h, at)
		same(t, "Upto", []any{places(got.Log), e, got.Image.Next}, []any{places(h.Log[:i]), api.OK, 1})
	}
	got, e := Upto(h, z(1, 3))
	same(t, "Upto no mark", []any{Same(got, h), e}, []any{true, api.ErrNone})
	twice := of(z(1, 1), z(0, 0), z(1, 1))
	got, _ = Upto(twice, z(1, 1))
	same(t, "Upto the first such mark", len(got.Log), 1)
	got, _ = Upto(twice, z(0, 0))
	same(t, "Upto the base", len(got.Log), 0)
	got, e = Grow(h, txns(z(3, 2), z(9, 0)))
	same(t, "Grow", []any{places(got.Log), e}, []any{[]api.Zxid{z(1, 1), z(1, 2), z(3, 1), z(3, 2), z(9, 0)}, api.OK})
	for _, l := range [][]api.Txn{txns(z(3, 1)), txns(z(2, 9)), txns(z(3, 2), z(3, 2)), txns(z(4, 1), z(3, 9))} {
		got, e = Grow(h, l)
		same(t, "Grow by what does not rise", []any{Same(got, h), e}, []any{true, api.ErrArg})
	}
	got, e = Grow(twice, nil)
	same(t, "Grow by none", []any{len(got.Log), e}, []any{3, api.OK})
}

// P16.3
func TestStateAt(t *testing.T) {
	h := of(z(1, 1), z(1, 2), z(3, 1))
	same(t, "StateAt", []int{len(StateAt(h, z(0, 0)).Nodes), len(StateAt(h, z(1, 1)).Nodes), len(StateAt(h, z(2, 0)).Nodes), len(StateAt(h, z(9, 0)).Nodes)}, []int{1, 2, 3, 4})
	got, e := Squash(h, z(1, 2))
	same(t, "Squash", []any{state.Same(got.Image, StateAt(h, z(1, 2))), places(got.Log), e}, []any{true, []api.Zxid{z(3, 1)}, api.OK})
	got, e = Squash(h, z(2, 0))
	same(t, "Squash at no mark", []any{Same(got, h), e}, []any{true, api.ErrNone})
}

func with(n int, configs ...int) api.Txn {
	t := txn(z(1, n))
	for _, kind := range configs {
		t.Parts = append(t.Parts, api.Part{Kind: api.PartConfig, Config: conf(kind)})
	}
	return t
}

// P16.4, P16.9
func TestNeeds(t *testing.T) {
	h := of()
	h.Log = []api.Txn{with(1), with(2, 7, 2), with(3), with(4, 3), with(5)}
	kinds := func(h api.History, done api.Zxid) []int {
		var l []int
		for _, c := range Needs(h, done) {
			l = append(l, c.Kind)
		}
		return l
	}
	for n, want := range [][]int{{2, 3}, {2, 3}, {2, 3}, {2, 3}, {3}, {3}} {
		same(t, fmt.Sprint("Needs, done up to ", n), kinds(h, z(1, n)), want)
	}
	for n, want := range [][]int{{1}, {1}, {1, 2}, {1, 2}, {2, 3}} {
		same(t, fmt.Sprint("Needs of the first ", n), kinds(api.History{Image: h.Image, Log: h.Log[:n]}, z(0, 0)), want)
	}
	same(t, "Needs of an image above all that is done", kinds(api.History{Image: StateAt(h, z(1, 4))}, z(0, 0)), []int{3})
}

// P16.5, P16.6
func TestPlans(t *testing.T) {
	leader := of(z(1, 1), z(1, 2), z(3, 1))
	for _, c := range []struct {
		learner api.History
		kind    int
		keep    api.Zxid
		log     []api.Zxid
	}{
		{of(z(1, 1), z(1, 2), z(2, 1)), api.PlanCut, z(1, 2), []api.Zxid{z(3, 1)}},
		{of(z(1, 1)), api.PlanDiff, z(1, 1), []api.Zxid{z(1, 2), z(3, 1)}},
		{of(z(1, 1), z(1, 2), z(3, 1)), api.PlanDiff, z(3, 1), nil},
		{of(z(1, 1), z(1, 2), z(3, 1), z(3, 2)), api.PlanCut, z(3, 1), nil},
		{of(), api.PlanDiff, z(0, 0), []api.Zxid{z(1, 1), z(1, 2), z(3, 1)}},
		{of(z(2, 1)), api.PlanCut, z(0, 0), []api.Zxid{z(1, 1), z(1, 2), z(3, 1)}},
	} {
		p := Make(leader, Marks(c.learner))
		same(t, "Make", []any{p.Kind, p.Keep, places(p.Log), len(p.Image.Nodes)}, []any{c.kind, c.keep, c.log, 0})
		got, e := Do(c.learner, p)
		same(t, "Do", []any{Same(got, leader), e}, []any{true, api.OK})
	}
	p := Make(leader, []api.Zxid{z(5, 5)})
	same(t, "Make for another base", []any{p.Kind, p.Keep, len(p.Log), len(p.Image.Nodes)}, []any{api.PlanSnap, z(0, 0), 3, 1})
	got, e := Do(of(z(9, 9)), p)
	same(t, "Do of an image", []any{Same(got, leader), e}, []any{true, api.OK})
	same(t, "Make for nobody's marks", Make(leader, nil).Kind, api.PlanSnap)
	same(t, "a mark that stands twice", Make(leader, []api.Zxid{z(1, 1), z(2, 2), z(1, 1)}).Kind, api.PlanDiff)
}

func TestDoErrors(t *testing.T) {
	h := of(z(1, 1), z(1, 2))
	for i, c := range []struct {
		p api.Plan
		e api.Errno
	}{
		{api.Plan{}, api.ErrArg}, {api.Plan{Kind: 4}, api.ErrArg}, {api.Plan{Kind: api.PlanDiff, Log: txns(z(1, 2))}, api.ErrArg}, {api.Plan{Kind: api.PlanCut, Keep: z(1, 3), Log: txns(z(1, 1))}, api.ErrNone},
		{api.Plan{Kind: api.PlanCut, Keep: z(1, 1), Log: txns(z(1, 1))}, api.ErrArg}, {api.Plan{Kind: api.PlanSnap, Image: state.Start(conf(1)), Log: txns(z(0, 0))}, api.ErrArg},
	} {
		got, e := Do(h, c.p)
		same(t, fmt.Sprint("Do of a wrong plan ", i), []any{Same(got, h), e}, []any{true, c.e})
	}
}

func rising(r *rand.Rand, epoch, n int) []api.Zxid {
	var l []api.Zxid
	for i := range r.Intn(n) {
		l = append(l, z(epoch, i+1))
	}
	return l
}

// P16.7, P16.8
func TestOneHistory(t *testing.T) {
	r := rand.New(rand.NewSource(1))
	for range 500 {
		common := of(rising(r, 1, 6)...)
		leader, _ := Grow(common, txns(rising(r, 2, 4)...))
		learner, _ := Grow(common, txns(rising(r, 3, 4)...))
		// Both may have squashed what they have in common.
		some := Marks(common)
		a, b := some[r.Intn(len(some))], some[r.Intn(len(some))]
		short, _ := Squash(leader, a)
		mine, _ := Squash(learner, b)
		got, e := Do(mine, Make(short, Marks(mine)))
		if e != api.OK || Last(got) != Last(leader) {
			t.Fatalf("%v becomes %v, not %v: %d", Marks(mine), Marks(got), Marks(short), e)
		}
		for _, at := range Marks(got) {
			if !state.Same(StateAt(got, at), StateAt(leader, at)) {
				t.Fatalf("at %v another state", at)
			}
		}
	}
}
