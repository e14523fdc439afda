package elect

import (
	"fmt"
	"math/rand"
	"testing"

	"witan/api"
	"witan/vote"
)

func same(t *testing.T, what string, got, want any) {
	t.Helper()
	if a, b := fmt.Sprint(got), fmt.Sprint(want); a != b {
		t.Errorf("%s: %s, want %s", what, a, b)
	}
}

func z(n int) api.Zxid { return api.Zxid{Epoch: 1, N: n} }

func majority(n int) []api.Config {
	c := api.Config{Kind: api.Majority}
	for id := range n {
		c.Members = append(c.Members, api.Member{Id: id, Role: 1})
	}
	return []api.Config{c}
}

var three = []int{0, 1, 2}

// P18.1
func TestBegin(t *testing.T) {
	v := api.Vote{From: 2, Round: 5, Epoch: 16, Last: z(3), Cand: 2, Mode: api.Looking}
	same(t, "Begin", Begin(2, 5, 16, z(3)), api.Seek{Id: 2, Round: 5, Own: v, Now: v, Heard: []api.Vote{v}})
}

// P18.2
func TestHearNothing(t *testing.T) {
	s := Begin(0, 5, 16, z(3))
	good := Begin(1, 5, 16, z(9)).Own
	for i, turn := range []func(*api.Vote){func(v *api.Vote) { v.Mode = api.Leading }, func(v *api.Vote) { v.Mode = 0 }, func(v *api.Vote) { v.From = 0 }, func(v *api.Vote) { v.From = 3 }, func(v *api.Vote) { v.From, v.Round = 3, 9 }, func(v *api.Vote) { v.Mode, v.Round = api.Learning, 1 }} {
		v := good
		turn(&v)
		got, to := Hear(s, three, three, v)
		same(t, fmt.Sprint("a vote that counts not ", i), []any{got, to}, []any{s, 0})
	}
	old := good
	old.Round = 4
	got, to := Hear(s, three, three, old)
	same(t, "an older round", []any{got, to}, []any{s, 2})
}

func TestHear(t *testing.T) {
	s := Begin(0, 5, 16, z(3))
	better, worse := Begin(1, 5, 16, z(4)).Own, Begin(1, 5, 16, z(2)).Own
	now := better
	now.From = 0
	got, to := Hear(s, three, three, better)
	same(t, "a better one", []any{got, to}, []any{api.Seek{Id: 0, Round: 5, Own: s.Own, Now: now, Heard: []api.Vote{now, better}}, 1})
	got, to = Hear(s, three, three, worse)
	same(t, "a worse one", []any{got, to}, []any{api.Seek{Id: 0, Round: 5, Own: s.Own, Now: s.Own, Heard: []api.Vote{s.Own, worse}}, 0})
	got, to = Hear(s, three, []int{0, 2}, better)
	same(t, "one who does not stand", []any{got, to}, []any{s, 0})
	s, _ = Hear(s, three, three, Begin(2, 5, 16, z(9)).Own)
	own := s.Own
	own.Round = 7
	newer := worse
	newer.Round = 7
	got, to = Hear(s, three, three, newer)
	same(t, "a newer round", []any{got, to}, []any{api.Seek{Id: 0, Round: 7, Own: own, Now: own, Heard: []api.Vote{own, newer}}, 1})
	got, to = Hear(s, three, []int{0}, newer)
	same(t, "a newer round of one who does not stand", []any{got, to}, []any{api.Seek{Id: 0, Round: 7, Own: own, Now: own, Heard: []api.Vote{own}}, 1})
	newer.Last = z(8)
	got, to = Hear(s, three, three, newer)
	now = newer
	now.From = 0
	same(t, "a newer round, and better", []any{got, to}, []any{api.Seek{Id: 0, Round: 7, Own: own, Now: now, Heard: []api.Vote{now, newer}}, 1})
}

// P18.3
func TestWinner(t *testing.T) {
	s := Begin(0, 5, 16, z(3))
	id, ok := Winner(s, majority(3))
	same(t, "alone of three", []any{id, ok}, []any{0, false})
	id, ok = Winner(s, majority(1))
	same(t, "alone of one", []any{id, ok}, []any{0, true})
	s, _ = Hear(s, three, three, Begin(1, 5, 16, z(3)).Own)
	id, ok = Winner(s, majority(3))
	same(t, "the example's", []any{id, ok}, []any{1, true})
	_, ok = Winner(s, nil)
	same(t, "of no config", ok, false)
}

// P18.4, P18.5
func TestAnyOrder(t *testing.T) {
	r := rand.New(rand.NewSource(1))
	for range 400 {
		n := 2 + r.Intn(4)
		voters := make([]int, n)
		seeks := make([]api.Seek, n)
		for id := range n {
			voters[id] = id
			seeks[id] = Begin(id, 1+r.Intn(2), r.Intn(2), z(r.Intn(3)))
		}
		for range 30 {
			to, from := r.Intn(n), r.Intn(n)
			was := seeks[to]
			seeks[to], _ = Hear(was, voters, voters, seeks[from].Now)
			now := seeks[to]
			if now.Round < was.Round || now.Round == was.Round && vote.Better(was.Now, now.Now) {
				t.Fatalf("%v becomes %v", was, now)
			}
			if c := now.Now.Cand; c < 0 || c >= n || now.Now.Last != seeks[c].Own.Last {
				t.Fatalf("%v votes for nobody's history", now)
			}
		}
		var l []api.Vote
		for _, s := range seeks {
			l = vote.Lay(l, s.Now)
		}
		for _, a := range seeks {
			for _, b := range seeks {
				if vote.Won(majority(n), l, a.Now) && vote.Won(majority(n), l, b.Now) && a.Now.Cand != b.Now.Cand {
					t.Fatalf("two have won: %v", l)
				}
			}
		}
	}
}

// P18.6
func TestAllHear(t *testing.T) {
	r := rand.New(rand.NewSource(2))
	for range 300 {
		n := 1 + r.Intn(6)
		var voters []int
		var seeks []api.Seek
		var own []api.Vote
		for id := range n {
			voters = append(voters, id)
			seeks = append(seeks, Begin(id, 3, r.Intn(2), z(r.Intn(3))))
			own = append(own, seeks[id].Own)
		}
		best, _ := vote.Best(own)
		for id := range n {
			for _, from := range r.Perm(n) {
				seeks[id], _ = Hear(seeks[id], voters, voters, own[from])
			}
			same(t, "who has heard all", seeks[id].Now.Cand, best.Cand)
		}
	}
}
