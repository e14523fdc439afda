package config

import (
	"fmt"
	"math"
	"math/rand"
	"testing"

	"witan/api"
)

func same(t *testing.T, what string, got, want any) {
	t.Helper()
	if a, b := fmt.Sprint(got), fmt.Sprint(want); a != b {
		t.Errorf("%s: %s, want %s", what, a, b)
	}
}

func three() api.Config {
	return api.Config{At: api.Zxid{Epoch: 3, N: 7}, Kind: api.Majority, Members: []api.Member{{Id: 0, Role: api.Participant, Weight: 1}, {Id: 2, Role: api.Observer, Weight: 1}, {Id: 15, Role: api.Participant, Weight: 100, Group: 7}}}
}

// P4.1
func TestCheck(t *testing.T) {
	same(t, "Check", Check(three()), api.OK)
	for i, spoil := range []func(*api.Config){
		func(c *api.Config) { c.Kind = 0 }, func(c *api.Config) { c.Kind = 4 }, func(c *api.Config) { c.At.Epoch = -1 }, func(c *api.Config) { c.At.N = -1 },
		func(c *api.Config) { c.At.Epoch = api.MaxCount + 1 }, func(c *api.Config) { c.At.N = api.MaxCount + 1 },
		func(c *api.Config) { c.Members[0].Id = -1 }, func(c *api.Config) { c.Members[2].Id = 16 }, func(c *api.Config) { c.Members[0].Role = 0 },
		func(c *api.Config) { c.Members[0].Role = 3 }, func(c *api.Config) { c.Members[0].Weight = -1 }, func(c *api.Config) { c.Members[0].Weight = 101 },
		func(c *api.Config) { c.Members[0].Group = -1 }, func(c *api.Config) { c.Members[0].Group = 8 }, func(c *api.Config) { c.Members[1].Id = 0 },
		func(c *api.Config) { c.Members[1].Id = 15 }, func(c *api.Config) { c.Members[0].Id, c.Members[1].Id = 2, 0 }, func(c *api.Config) { c.Kind = math.MinInt },
	} {
		c := three()
		spoil(&c)
		same(t, fmt.Sprint("Check of the wrong one ", i), Check(c), api.ErrArg)
	}
	one := func(kind, role, weight int) api.Config {
		return api.Config{Kind: kind, Members: []api.Member{{Id: 1, Role: role, Weight: weight}, {Id: 2, Role: api.Observer, Weight: 5}}}
	}
	same(t, "no members", Check(api.Config{Kind: 1}), api.ErrQuorum)
	same(t, "no participant", Check(one(api.Majority, api.Observer, 1)), api.ErrQuorum)
	same(t, "no weight", []api.Errno{Check(one(api.Majority, 1, 0)), Check(one(api.Weighted, 1, 0)), Check(one(api.Grouped, 1, 0))}, []api.Errno{api.OK, api.ErrQuorum, api.ErrQuorum})
	same(t, "some weight", []api.Errno{Check(one(api.Weighted, 1, 1)), Check(one(api.Grouped, 1, 100))}, []api.Errno{api.OK, api.OK})
	same(t, "wrong, and without a quorum", Check(api.Config{}), api.ErrArg)
}

// P4.2
func TestLists(t *testing.T) {
	c := three()
	same(t, "Voters", Voters(c), []int{0, 15})
	same(t, "Watchers", Watchers(c), []int{2})
	c.Members = append(c.Members, api.Member{Id: 2, Role: api.Participant})
	m, ok := Find(c, 2)
	same(t, "Find", []any{m, ok}, []any{c.Members[1], true})
	m, ok = Find(c, 3)
	same(t, "Find of none", []any{m, ok}, []any{api.Member{}, false})
	l := []api.Member{{Id: 3, Role: 1}, {Id: 1, Role: 1}, {Id: 3, Role: 2}, {Id: -5}, {Id: 1, Role: 2}}
	want := []api.Member{{Id: -5}, {Id: 1, Role: 1}, {Id: 1, Role: 2}, {Id: 3, Role: 1}, {Id: 3, Role: 2}}
	same(t, "Sort", Sort(l), want)
	same(t, "Sort of what is sorted", Sort(want), want)
	same(t, "what was sorted", l[0].Id, 3)
}

func TestSame(t *testing.T) {
	same(t, "Same", Same(three(), three()), true)
	for i, turn := range []func(*api.Config){
		func(c *api.Config) { c.Kind = 2 }, func(c *api.Config) { c.At.N = 8 }, func(c *api.Config) { c.At.Epoch = 8 }, func(c *api.Config) { c.Members = c.Members[:2] },
		func(c *api.Config) { c.Members[1].Role = 1 }, func(c *api.Config) { c.Members[0], c.Members[1] = c.Members[1], c.Members[0] },
		func(c *api.Config) { c.Members = append(c.Members, api.Member{}) },
	} {
		c := three()
		turn(&c)
		same(t, fmt.Sprint("Same of another one ", i), []bool{Same(c, three()), Same(three(), c)}, []bool{false, false})
	}
	same(t, "Same of none and empty", Same(api.Config{Members: []api.Member{}}, api.Config{}), true)
}

// P4.3
func TestText(t *testing.T) {
	same(t, "Text", Text(three()), "3.7 1 0p1g0 2o1g0 15p100g7")
	same(t, "Text of a wrong one", Text(api.Config{Kind: 1}), "")
}

func TestParse(t *testing.T) {
	for _, s := range []string{"", "3.7", "3.7 ", "3.7 1 ", " 3.7 1 0p1g0", "3.7  1 0p1g0", "3.7 1  0p1g0", "3.7 1 0p1g0 ", "3.7 11 0p1g0", "3.7 01 0p1g0", "3.7 x 0p1g0",
		"3 1 0p1g0", "03.7 1 0p1g0", "3.7 1 00p1g0", "3.7 1 0p01g0", "3.7 1 0p1g00", "3.7 1 0x1g0", "3.7 1 0p1h0", "3.7 1 p1g0", "3.7 1 0pg0", "3.7 1 0p1g",
		"3.7 1 0p1g0x", "3.7 1 0p1000g0", "3.7 1 -1p1g0", "3.7 1 0p1g0\t1p1g0", "3.7 1 0", "3.7 1 0p", "3.7 1 0p1", "3.7 -1 0p1g0", "3.7 1 1234p1g0", "3.7 ١ 0p1g0", "3.7 1 ٣p1g0"} {
		c, e := Parse(s)
		same(t, "Parse of "+s, []any{c, e}, []any{api.Config{}, api.ErrForm})
	}
	for s, want := range map[string]api.Errno{"3.7 0 0p1g0": api.ErrArg, "3.7 9 0p1g0": api.ErrArg, "3.7 1 16p1g0": api.ErrArg, "3.7 1 999p1g0": api.ErrArg, "3.7 1 0p101g0": api.ErrArg, "3.7 1 0p1g8": api.ErrArg,
		"3.7 1 1p1g0 0p1g0": api.ErrArg, "3.7 1": api.ErrQuorum, "3.7 1 0o1g0": api.ErrQuorum, "3.7 2 0p0g0": api.ErrQuorum} {
		c, e := Parse(s)
		same(t, "Parse of "+s, []any{c, e}, []any{api.Config{}, want})
	}
	c, e := Parse("3.7 1 0p1g0 2o1g0 15p100g7")
	same(t, "Parse", []any{c, e}, []any{three(), api.OK})
}

func some(r *rand.Rand) api.Config {
	c := api.Config{At: api.Zxid{Epoch: r.Intn(30), N: r.Intn(30)}, Kind: 1 + r.Intn(3)}
	for id := range 16 {
		if r.Intn(3) == 0 {
			c.Members = append(c.Members, api.Member{Id: id, Role: 1 + r.Intn(2), Weight: r.Intn(101), Group: r.Intn(8)})
		}
	}
	return c
}

// P4.4, P4.5
func TestBack(t *testing.T) {
	r := rand.New(rand.NewSource(1))
	for range 2000 {
		c := some(r)
		got, e := Parse(Text(c))
		if Check(c) == api.OK && (e != api.OK || !Same(got, c)) {
			t.Fatalf("%v comes back as %v", c, got)
		}
		s := []byte("3.7 1 0p1g0 2o1g0")
		s[r.Intn(len(s))] = "0123456789pog. "[r.Intn(15)]
		if c, e := Parse(string(s)); e == api.OK {
			same(t, "Text of Parse", Text(c), string(s))
		}
		if len(Voters(c))+len(Watchers(c)) != len(c.Members) {
			t.Fatalf("voters and watchers of %v", c)
		}
		r.Shuffle(len(c.Members), func(i, j int) { c.Members[i], c.Members[j] = c.Members[j], c.Members[i] })
		sorted := Sort(c.Members)
		same(t, "Sort keeps all", len(sorted), len(c.Members))
		same(t, "a second Sort", Sort(sorted), sorted)
	}
}
