package delta

import (
	"fmt"
	"math/rand"
	"testing"

	"witan/api"
	"witan/config"
	"witan/quorum"
)

func same(t *testing.T, what string, got, want any) {
	t.Helper()
	if a, b := fmt.Sprint(got), fmt.Sprint(want); a != b {
		t.Errorf("%s: %s, want %s", what, a, b)
	}
}

func parse(s string) api.Config {
	c, _ := config.Parse(s)
	return c
}

func put(s string) []api.Member {
	c := parse("0.0 1 " + s)
	return c.Members
}

var at = api.Zxid{Epoch: 4, N: 2}

// P6.1
func TestApply(t *testing.T) {
	c := parse("3.7 1 0p1g0 1p1g0 2p1g0")
	for _, x := range []struct {
		d    api.Delta
		want string
	}{
		{api.Delta{Put: put("3p1g0"), Drop: []int{0}}, "4.2 1 1p1g0 2p1g0 3p1g0"},
		{api.Delta{}, "4.2 1 0p1g0 1p1g0 2p1g0"},
		{api.Delta{Kind: 2, Put: []api.Member{{Id: 1, Role: 2, Weight: 7, Group: 3}}}, "4.2 2 0p1g0 1o7g3 2p1g0"},
		{api.Delta{Put: []api.Member{{Id: 9, Role: 1}, {Id: 4, Role: 2}}, Drop: []int{2, 1}}, "4.2 1 0p1g0 4o0g0 9p0g0"},
	} {
		got, e := Apply(c, x.d, at)
		same(t, fmt.Sprint("Apply of ", x.d), []any{config.Text(got), e}, []any{x.want, api.OK})
	}
}

func TestApplyErrors(t *testing.T) {
	c := parse("3.7 1 0p1g0 1p1g0 2p1g0")
	for _, x := range []struct {
		d  api.Delta
		at api.Zxid
		e  api.Errno
	}{
		{api.Delta{Put: []api.Member{{Id: 3, Role: 1}, {Id: 3, Role: 2}}, Drop: []int{7}}, at, api.ErrArg},
		{api.Delta{Drop: []int{7, 7}}, at, api.ErrArg}, {api.Delta{Kind: -1}, at, api.ErrArg}, {api.Delta{Kind: 4, Drop: []int{7}}, at, api.ErrArg},
		{api.Delta{Put: put("1p1g0"), Drop: []int{1}}, at, api.ErrArg}, {api.Delta{Put: put("1p1g0"), Drop: []int{7, 1}}, at, api.ErrNone},
		{api.Delta{Put: put("1p1g0"), Drop: []int{1, 7}}, at, api.ErrArg}, {api.Delta{Drop: []int{7}}, at, api.ErrNone}, {api.Delta{Drop: []int{-1}}, at, api.ErrNone},
		{api.Delta{Drop: []int{0, 1, 2}}, at, api.ErrQuorum}, {api.Delta{Put: []api.Member{{Id: 16, Role: 1}}}, at, api.ErrArg}, {api.Delta{Put: []api.Member{{Id: 5}}, Drop: []int{0, 1, 2}}, at, api.ErrArg},
		{api.Delta{}, api.Zxid{Epoch: -1}, api.ErrArg},
	} {
		got, e := Apply(c, x.d, x.at)
		same(t, fmt.Sprint("Apply of ", x.d), []any{config.Text(got), e}, []any{config.Text(c), x.e})
	}
	_, e := Apply(api.Config{Kind: 1}, api.Delta{Kind: 9}, at)
	same(t, "of a config that may not be", e, api.ErrConfig)
}

// P6.2
func TestDiff(t *testing.T) {
	a, b := parse("3.7 1 0p1g0 1p1g0 2p1g0"), parse("4.0 2 0p1g0 2o1g0 5p1g0 9p2g2")
	same(t, "Diff", Diff(a, b), api.Delta{Kind: 2, Put: put("2o1g0 5p1g0 9p2g2")[0:], Drop: []int{1}})
	same(t, "Diff of one and itself", Diff(a, a), api.Delta{})
	two := api.Config{Members: []api.Member{{Id: 4, Role: 1}, {Id: 4, Role: 2}, {Id: 3}, {Id: 3}}}
	same(t, "the first of one Id", Diff(two, api.Config{Members: []api.Member{{Id: 4, Role: 2}, {Id: 4, Role: 1}}}), api.Delta{Put: []api.Member{{Id: 4, Role: 2}}, Drop: []int{3, 3}})
}

func TestSame(t *testing.T) {
	d := func() api.Delta { return api.Delta{Kind: 1, Put: put("1p1g0 2p1g0"), Drop: []int{3, 4}} }
	same(t, "Same", []bool{Same(d(), d()), Same(api.Delta{Drop: []int{}}, api.Delta{})}, []bool{true, true})
	for i, turn := range []func(*api.Delta){func(d *api.Delta) { d.Kind = 2 }, func(d *api.Delta) { d.Put[1].Weight = 3 }, func(d *api.Delta) { d.Put = d.Put[:1] }, func(d *api.Delta) { d.Drop[0] = 9 }, func(d *api.Delta) { d.Drop = append(d.Drop, 1) }} {
		x := d()
		turn(&x)
		same(t, fmt.Sprint("Same of another ", i), []bool{Same(x, d()), Same(d(), x)}, []bool{false, false})
	}
}

func some(r *rand.Rand) api.Config {
	for {
		c := api.Config{At: api.Zxid{Epoch: r.Intn(9)}, Kind: 1 + r.Intn(3)}
		for id := range 7 {
			if r.Intn(2) == 0 {
				c.Members = append(c.Members, api.Member{Id: id, Role: 1 + r.Intn(2), Weight: r.Intn(3), Group: r.Intn(3)})
			}
		}
		if config.Check(c) == api.OK {
			return c
		}
	}
}

// P6.3, P6.4
func TestBack(t *testing.T) {
	r := rand.New(rand.NewSource(1))
	for range 2000 {
		a, b := some(r), some(r)
		got, e := Apply(a, Diff(a, b), b.At)
		if e != api.OK || !config.Same(got, b) {
			t.Fatalf("of %v and %v comes %v, %d", a, b, got, e)
		}
		got, e = Apply(a, api.Delta{}, at)
		got.At = a.At
		if e != api.OK || !config.Same(got, a) {
			t.Fatalf("a delta of nothing makes %v of %v", got, a)
		}
	}
}

// P6.5
func TestOneByOne(t *testing.T) {
	for n := 1; n < 7; n++ {
		a := api.Config{Kind: api.Majority}
		for id := range n {
			a.Members = append(a.Members, api.Member{Id: id, Role: api.Participant})
		}
		b, _ := Apply(a, api.Delta{Put: []api.Member{{Id: 8, Role: api.Participant}}}, at)
		for set := range 1 << 9 {
			var in, out []int
			for id := range 9 {
				if set>>id&1 == 1 {
					in = append(in, id)
				} else {
					out = append(out, id)
				}
			}
			if quorum.Is(a, in) && quorum.Is(b, out) {
				t.Fatalf("of %d participants %v, of one more %v are quorums", n, in, out)
			}
		}
	}
}
