package reconf

import (
	"fmt"
	"math/rand"
	"testing"

	"witan/ack"
	"witan/api"
	"witan/config"
	"witan/delta"
	"witan/history"
	"witan/quorum"
	"witan/state"
)

func same(t *testing.T, what string, got, want any) {
	t.Helper()
	if a, b := fmt.Sprint(got), fmt.Sprint(want); a != b {
		t.Errorf("%s: %s, want %s", what, a, b)
	}
}

func z(n int) api.Zxid { return api.Zxid{Epoch: 16, N: n} }

func parse(s string) api.Config {
	c, e := config.Parse("0.0 1" + s)
	if e != api.OK {
		panic(s)
	}
	return c
}

// P20.1
func TestRole(t *testing.T) {
	a, b := parse(" 0p1g0 1p1g0 3o1g0 9o1g0"), parse(" 0o1g0 2p1g0 3o1g0 9p1g0")
	needs := []api.Config{a, b}
	want := map[int]int{0: 1, 1: 1, 2: 1, 3: 2, 4: 0, 9: 1, -1: 0, 16: 0}
	for id, role := range want {
		same(t, fmt.Sprint("Role of ", id), Role(needs, id), role)
	}
	same(t, "Voting", Voting(needs), []int{0, 1, 2, 9})
	same(t, "Others", [][]int{Others(needs, 3), Others(needs, 7), Others(nil, 7)}, [][]int{{0, 1, 2, 9}, {0, 1, 2, 3, 9}, nil})
	odd := func(roles ...int) (l []api.Config) {
		for _, role := range roles {
			l = append(l, api.Config{Members: []api.Member{{Id: 4, Role: role}, {Id: 4, Role: 1}, {Id: 16, Role: 1}}})
		}
		return l
	}
	same(t, "other roles", []int{Role(odd(5), 4), Role(odd(5, 2), 4), Role(odd(0, 2, 5), 4), Role(odd(5, 1), 4), Role(odd(-1, 2), 4)}, []int{5, 5, 2, 1, -1})
	same(t, "other roles' lists", [][]int{Voting(odd(5)), Others(odd(5), 0), Voting(odd(1))}, [][]int{nil, {4}, {4}})
}

func base() api.History {
	h := api.History{Image: state.Start(parse(" 0p1g0 1p1g0 2p1g0"))}
	h.Image.Sessions, h.Image.Next = []int{1}, 2
	h.Log = []api.Txn{{At: z(1)}, {At: z(2)}}
	return h
}

func has(id, n int) api.Learner { return api.Learner{Id: id, Phase: 4, Acked: z(n)} }

func ask(d api.Delta) api.Request { return api.Request{Session: 1, Delta: d} }

// P20.2
func TestAsk(t *testing.T) {
	book := []api.Learner{has(1, 2), has(2, 1)}
	c, e := Ask(base(), z(1), 0, book, ask(api.Delta{Drop: []int{2}}))
	same(t, "Ask", []any{config.Text(c), e}, []any{"16.3 1 0p1g0 1p1g0", api.OK})
	more := api.Delta{Put: []api.Member{{Id: 3, Role: 1}, {Id: 4, Role: 1}, {Id: 5, Role: 1}}}
	busy := base()
	busy.Log[1].Parts = []api.Part{{Kind: api.PartConfig, Config: parse(" 0p1g0 1p1g0")}}
	late := base()
	late.Log[1].At = api.Zxid{Epoch: 16, N: api.MaxCount}
	for i, c := range []struct {
		h    api.History
		done api.Zxid
		r    api.Request
		e    api.Errno
	}{
		{base(), z(2), ask(more), api.ErrQuorum}, {base(), z(2), ask(api.Delta{Drop: []int{0, 1}}), api.ErrQuorum}, {base(), z(1), ask(api.Delta{Drop: []int{0}}), api.OK}, {base(), z(2), ask(api.Delta{Drop: []int{0}}), api.ErrQuorum},
		{busy, z(1), ask(api.Delta{}), api.ErrBusy}, {busy, z(2), ask(api.Delta{}), api.OK}, {late, z(1), ask(api.Delta{Drop: []int{9}}), api.ErrLong},
		{base(), z(1), ask(api.Delta{Drop: []int{9}}), api.ErrNone}, {base(), z(1), api.Request{Session: 2}, api.ErrSession}, {base(), z(1), api.Request{Session: 1, Want: z(1)}, api.ErrVersion},
		{base(), z(1), api.Request{Kind: api.ReqOpen, Session: 1}, api.OK}, {base(), z(1), ask(api.Delta{Drop: []int{0, 1, 2}}), api.ErrQuorum},
	} {
		got, e := Ask(c.h, c.done, 0, book, c.r)
		same(t, fmt.Sprint("Ask ", i), []any{e, got.Kind > 0}, []any{c.e, c.e == api.OK})
	}
	_, e = Ask(base(), z(1), 0, []api.Learner{{Id: 1, Phase: 3, Acked: z(2)}, {Id: 2, Phase: 3, Acked: z(2)}}, ask(api.Delta{}))
	same(t, "nobody at hand", e, api.ErrQuorum)
}

// P20.3, P20.6
func TestHeir(t *testing.T) {
	c := parse(" 0p1g0 1p1g0 2p1g0 3o1g0")
	for _, x := range []struct {
		l    []api.Learner
		want int
	}{
		{nil, -1}, {[]api.Learner{has(3, 9), has(7, 9)}, -1}, {[]api.Learner{has(1, 2), has(2, 1)}, 1}, {[]api.Learner{has(1, 2), has(2, 2), has(0, 2)}, 2}, {[]api.Learner{{Id: 1, Phase: 3, Acked: z(9)}, {Id: 2, Phase: 5, Acked: z(9)}, has(0, 1)}, 0},
		{[]api.Learner{{Id: 0, Phase: 4, Acked: api.Zxid{Epoch: -1}}}, 0},
	} {
		same(t, fmt.Sprint("Heir of ", x.l), Heir(c, x.l), x.want)
	}
}

// P20.4, P20.5
func TestTaken(t *testing.T) {
	r := rand.New(rand.NewSource(1))
	taken := 0
	for range 2000 {
		h, done := base(), z(r.Intn(3))
		if r.Intn(3) == 0 {
			h.Log[r.Intn(2)].Parts = []api.Part{{Kind: api.PartConfig, Config: parse(" 0p1g0 1p1g0 2p1g0")}}
		}
		book := []api.Learner{{Id: 1, Phase: 3 + r.Intn(2), Acked: z(r.Intn(3))}, {Id: 2, Phase: 3 + r.Intn(2), Acked: z(r.Intn(3))}, {Id: 3, Phase: 3 + r.Intn(2), Acked: z(r.Intn(3))}}
		d := api.Delta{Put: []api.Member{{Id: r.Intn(5), Role: 1 + r.Intn(2)}}, Drop: []int{r.Intn(4)}}
		c, e := Ask(h, done, 0, book, ask(d))
		if e != api.OK {
			continue
		}
		taken++
		want, _ := delta.Apply(history.StateAt(h, z(9)).Config, d, z(3))
		if len(history.Needs(h, done)) > 1 || !quorum.Is(c, ack.Set(0, book, 4, done)) || !config.Same(c, want) {
			t.Fatalf("taken: %v, %v, %v", h, book, d)
		}
		if heir := Heir(c, book); heir >= 0 {
			for _, x := range book {
				if x.Id == heir && Role([]api.Config{c}, heir) != api.Participant {
					t.Fatalf("the heir does not vote")
				}
			}
		}
	}
	if taken < 50 {
		t.Errorf("only %d were taken", taken)
	}
}
