package vote

import (
	"fmt"
	"math/rand"
	"testing"

	"witan/api"
)

func same(t *testing.T, what string, got, want any) {
	t.Helper()
	if a, b := fmt.Sprint(got), fmt.Sprint(want); a != b {
		t.Errorf("%s: %s, want %s", what, a, b)
	}
}

func v(epoch, e, n, cand int) api.Vote {
	return api.Vote{Epoch: epoch, Last: api.Zxid{Epoch: e, N: n}, Cand: cand}
}

func from(id int, x api.Vote) api.Vote {
	x.From = id
	return x
}

// P17.1, P17.4
func TestBetter(t *testing.T) {
	row := []api.Vote{v(-1, 0, 0, -1), v(0, 0, 0, 0), v(0, 9, 9, 9), v(3, 3, 6, 2), v(3, 3, 7, 0), v(3, 3, 7, 1), v(3, 4, 0, 0), v(4, 0, 0, 0)}
	for i, a := range row {
		for j, b := range row {
			same(t, fmt.Sprint("Better of ", a, b), Better(a, b), i > j)
		}
	}
	same(t, "another round, voter or mode", Better(api.Vote{From: 3, Round: 4, Mode: 2}, api.Vote{}), false)
	best, ok := Best([]api.Vote{from(1, row[2]), from(2, row[5]), from(3, row[5]), from(4, row[0])})
	same(t, "Best", []any{best, ok}, []any{from(2, row[5]), true})
	best, ok = Best([]api.Vote{row[0]})
	same(t, "Best of one below zero", []any{best, ok}, []any{row[0], true})
	best, ok = Best(nil)
	same(t, "Best of none", []any{best, ok}, []any{api.Vote{}, false})
}

// P17.2
func TestLay(t *testing.T) {
	l := []api.Vote{from(1, v(1, 1, 1, 1)), from(3, v(1, 1, 1, 1)), from(3, v(2, 2, 2, 2)), from(5, v(1, 1, 1, 1))}
	x := v(7, 7, 7, 7)
	same(t, "Lay anew", Lay(l, from(3, x)), []api.Vote{l[0], from(3, x), l[3]})
	same(t, "Lay between", Lay(l, from(4, x)), []api.Vote{l[0], l[1], l[2], from(4, x), l[3]})
	same(t, "Lay at the ends", []any{Lay(l, from(0, x))[0], Lay(l, from(9, x))[4], Lay(nil, x)}, []any{from(0, x), from(9, x), []api.Vote{x}})
	w := api.Vote{Round: 2, Epoch: 3, Last: api.Zxid{Epoch: 4, N: 5}, Cand: 6, Mode: 1}
	var all []api.Vote
	for i, turn := range []func(*api.Vote){func(*api.Vote) {}, func(x *api.Vote) { x.Round++ }, func(x *api.Vote) { x.Epoch++ }, func(x *api.Vote) { x.Last.Epoch++ }, func(x *api.Vote) { x.Last.N++ }, func(x *api.Vote) { x.Cand++ }, func(x *api.Vote) { x.Mode++ }} {
		x := from(9-i, w)
		turn(&x)
		all = append(all, x)
	}
	same(t, "Backs", [][]int{Backs(all, from(77, w)), Backs(nil, w)}, [][]int{{9, 3}, nil})
}

// P17.2: of lists that do not rise, too.
func TestLayAnyList(t *testing.T) {
	x := v(7, 7, 7, 7)
	for _, c := range []struct {
		was  []int
		id   int
		want []int
	}{
		{[]int{6, 0}, 6, []int{6, 0}}, {[]int{1, 6, 2, 6, 3}, 6, []int{1, 6, 2, 3}}, {[]int{7, 6, 0}, 6, []int{6, 7, 0}}, {[]int{6, 6}, 6, []int{6}},
		{[]int{5, 0, 5}, -1, []int{-1, 5, 0, 5}}, {[]int{2, 1}, 3, []int{2, 1, 3}}, {[]int{-3, -3, -9}, -3, []int{-3, -9}},
	} {
		var l []api.Vote
		for _, id := range c.was {
			l = append(l, api.Vote{From: id})
		}
		var want []api.Vote
		for _, id := range c.want {
			want = append(want, api.Vote{From: id})
			if id == c.id {
				want[len(want)-1] = from(id, x)
			}
		}
		same(t, fmt.Sprint("Lay of ", c.id, " into ", c.was), Lay(l, from(c.id, x)), want)
	}
}

func majority(n int) api.Config {
	c := api.Config{Kind: api.Majority}
	for id := range n {
		c.Members = append(c.Members, api.Member{Id: id, Role: 1})
	}
	return c
}

// P17.3
func TestWon(t *testing.T) {
	x := v(1, 1, 1, 2)
	l := []api.Vote{from(0, x), from(1, v(1, 1, 1, 1)), from(2, x)}
	same(t, "Won", []bool{Won([]api.Config{majority(3)}, l, x), Won([]api.Config{majority(3)}, l[:2], x), Won([]api.Config{majority(3), majority(5)}, l, x), Won(nil, l, x), Won([]api.Config{{}}, l, x)}, []bool{true, false, false, false, false})
}

// P17.5, P17.6
func TestOne(t *testing.T) {
	r := rand.New(rand.NewSource(1))
	for range 2000 {
		n := 1 + r.Intn(6)
		needs := []api.Config{majority(n)}
		var l, other []api.Vote
		var votes []api.Vote
		for id := range n {
			votes = append(votes, from(id, v(1, 1, r.Intn(2), r.Intn(2))))
		}
		for _, i := range r.Perm(n) {
			l = Lay(l, votes[i])
		}
		for _, i := range r.Perm(n) {
			other = Lay(Lay(other, from(i, v(9, 9, 9, 9))), votes[i])
		}
		same(t, "laid in another order", other, l)
		for _, a := range votes {
			for _, b := range votes {
				if Won(needs, l, a) && Won(needs, l, b) && from(0, a) != from(0, b) {
					t.Fatalf("%v and %v have won", a, b)
				}
			}
		}
	}
}
