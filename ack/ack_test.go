package ack

import (
	"fmt"
	"math/rand"
	"testing"

	"witan/api"
	"witan/history"
	"witan/quorum"
	"witan/state"
	"witan/zxid"
)

func same(t *testing.T, what string, got, want any) {
	t.Helper()
	if a, b := fmt.Sprint(got), fmt.Sprint(want); a != b {
		t.Errorf("%s: %s, want %s", what, a, b)
	}
}

func z(n int) api.Zxid { return api.Zxid{Epoch: 1, N: n} }

func majority(l ...int) api.Config {
	c := api.Config{Kind: api.Majority}
	for _, id := range l {
		c.Members = append(c.Members, api.Member{Id: id, Role: 1})
	}
	return c
}

// of: transactions 1.1, 1.2, ..; those whose config has members make it.
func of(c api.Config, l ...api.Config) api.History {
	h := api.History{Image: state.Start(c)}
	for i, c := range l {
		t := api.Txn{At: z(i + 1)}
		if c.Kind != 0 {
			t.Parts = []api.Part{{Kind: api.PartConfig, Config: c}}
		}
		h.Log = append(h.Log, t)
	}
	return h
}

func has(id, n int) api.Learner { return api.Learner{Id: id, Phase: 4, Acked: z(n)} }

// P19.1
func TestLearners(t *testing.T) {
	l := []api.Learner{{Id: 1}, {Id: 4, Quiet: 1}, {Id: 4, Quiet: 2}, {Id: 6}}
	x := func(id int) api.Learner { return api.Learner{Id: id, Quiet: 9, Marks: []api.Zxid{z(1)}} }
	same(t, "anew", Learners(l, x(4)), []api.Learner{{Id: 1}, x(4), {Id: 6}})
	same(t, "between", Learners(l, x(5)), []api.Learner{l[0], l[1], l[2], x(5), l[3]})
	same(t, "at the ends", [][]api.Learner{Learners(l, x(0))[:1], Learners(l, x(9))[4:], Learners(nil, x(3))}, [][]api.Learner{{x(0)}, {x(9)}, {x(3)}})
}

// P19.1: of lists that do not rise, too.
func TestLearnersAnyList(t *testing.T) {
	for _, c := range []struct {
		was  []int
		id   int
		want []int
	}{
		{[]int{5, 0}, 5, []int{5, 0}}, {[]int{1, 5, 2, 5, 3}, 5, []int{1, 5, 2, 3}}, {[]int{7, 5, 0}, 5, []int{5, 7, 0}}, {[]int{5, 5}, 5, []int{5}},
		{[]int{5, 0, 5}, -1, []int{-1, 5, 0, 5}}, {[]int{2, 1}, 3, []int{2, 1, 3}}, {[]int{-3, -3, -9}, -3, []int{-3, -9}},
	} {
		var l, want []api.Learner
		for _, id := range c.was {
			l = append(l, api.Learner{Id: id})
		}
		x := api.Learner{Id: c.id, Quiet: 9}
		for _, id := range c.want {
			want = append(want, api.Learner{Id: id})
			if id == c.id {
				want[len(want)-1] = x
			}
		}
		same(t, fmt.Sprint("Learners of ", c.was, " and ", c.id), Learners(l, x), want)
	}
}

// P19.2
func TestSet(t *testing.T) {
	l := []api.Learner{{Id: 1, Phase: 3, Acked: z(5)}, {Id: 7, Phase: 4, Acked: z(4)}, {Id: 2, Phase: 4, Acked: z(5)}, {Id: 0, Phase: 4, Acked: z(9)}, {Id: 3, Phase: 5, Acked: z(6)}, {Id: 3, Phase: 4, Acked: z(7)}}
	same(t, "Set", [][]int{Set(0, l, 4, z(5)), Set(0, l, 1, api.Zxid{}), Set(9, nil, 1, z(1)), Set(9, l, 6, z(0))}, [][]int{{0, 2, 3, 3}, {0, 1, 7, 2, 3, 3}, {9}, {9}})
}

// P19.3, and the example
func TestCommit(t *testing.T) {
	three, none := majority(0, 1, 2), api.Config{}
	h := of(three, none, none, none)
	l := []api.Learner{has(1, 2), has(2, 1)}
	same(t, "the example", Commit(h, z(0), 0, l), z(2))
	same(t, "done ahead", []api.Zxid{Commit(h, z(3), 0, l), Commit(h, z(9), 0, l), Commit(h, z(1), 0, nil)}, []api.Zxid{z(3), z(9), z(1)})
	l[0].Phase = 3
	same(t, "who has not all yet", Commit(h, z(0), 0, l), z(1))
	// 1.2 makes a config of four: it needs a quorum of three, and one of four; what comes behind it needs one of four.
	more := of(three, none, majority(0, 1, 2, 3), none)
	same(t, "a config more", []api.Zxid{
		Commit(more, z(0), 0, []api.Learner{has(1, 3)}), Commit(more, z(0), 0, []api.Learner{has(1, 3), has(3, 3)}), Commit(more, z(0), 0, []api.Learner{has(1, 2), has(2, 2)}), Commit(more, z(0), 3, []api.Learner{has(0, 3), has(9, 9)})},
		[]api.Zxid{z(1), z(3), z(2), z(0)})
	// A leader that drops itself needs no more than the others behind that.
	less := of(three, majority(1, 2), none)
	same(t, "a config less", []api.Zxid{Commit(less, z(0), 0, []api.Learner{has(1, 2)}), Commit(less, z(0), 0, []api.Learner{has(1, 2), has(2, 1)}), Commit(less, z(0), 0, []api.Learner{has(1, 2), has(2, 2)})}, []api.Zxid{z(0), z(1), z(2)})
	// Two configs, one behind the other: what is committed first counts for the second.
	two := of(majority(0), majority(0, 1), majority(1))
	same(t, "one config behind the other", []api.Zxid{Commit(two, z(0), 0, nil), Commit(two, z(0), 0, []api.Learner{has(1, 2)}), Commit(two, z(0), 0, []api.Learner{has(1, 1)})}, []api.Zxid{z(0), z(2), z(1)})
	same(t, "of a config that may not be", Commit(of(none, none), z(0), 0, []api.Learner{has(1, 9)}), z(0))
}

// P19.4
func TestCommitted(t *testing.T) {
	h := of(majority(0), api.Config{}, api.Config{}, api.Config{}, api.Config{})
	same(t, "Committed", []any{len(Committed(h, z(1), z(3))), Committed(h, z(1), z(3))[0].At, len(Committed(h, z(3), z(1))), len(Committed(h, api.Zxid{}, z(99)))}, []any{2, z(2), 0, 4})
}

func some(r *rand.Rand) (api.History, []api.Learner) {
	configs := []api.Config{{}, {}, majority(0, 1, 2), majority(0, 1, 2, 3), majority(1, 2, 3), majority(0, 1)}
	var l []api.Config
	for range r.Intn(6) {
		l = append(l, configs[r.Intn(len(configs))])
	}
	var book []api.Learner
	for id := 1; id < 5; id++ {
		book = append(book, api.Learner{Id: id, Phase: 3 + r.Intn(2), Acked: z(r.Intn(7))})
	}
	return of(majority(0, 1, 2), l...), book
}

// P19.5, P19.6
func TestQuorums(t *testing.T) {
	r := rand.New(rand.NewSource(1))
	for range 3000 {
		h, book := some(r)
		done := Commit(h, api.Zxid{}, 0, book)
		for i, u := range h.Log {
			if zxid.Cmp(u.At, done) > 0 {
				break
			}
			set := Set(0, book, 4, u.At)
			ahead := api.History{Image: h.Image, Log: h.Log[:i]}
			both := []api.Config{history.StateAt(ahead, z(99)).Config, history.StateAt(h, u.At).Config}
			if !quorum.All(both, set) {
				t.Fatalf("%v of %v is committed by %v", u.At, both, set)
			}
		}
		k := r.Intn(len(book))
		book[k].Phase = 4
		book[k].Acked.N += r.Intn(3)
		if more := Commit(h, api.Zxid{}, 0, book); zxid.Cmp(more, done) < 0 || Commit(h, done, 0, book) != more {
			t.Fatalf("with more, not %v but %v", done, more)
		}
	}
}

// P19.7
func TestNoTwo(t *testing.T) {
	r := rand.New(rand.NewSource(1))
	c := majority(0, 1, 2, 3, 4)
	for range 2000 {
		a, b := of(c, make([]api.Config, 4)...), of(c, make([]api.Config, 4)...)
		part := r.Intn(4)
		for i := part; i < 4; i++ {
			b.Log[i].Session = 7
		}
		var left, right []api.Learner
		for id := 1; id < 4; id++ {
			n := r.Intn(5)
			if r.Intn(2) == 0 || n <= part {
				left = append(left, has(id, n))
			}
			if len(left) == 0 || left[len(left)-1].Id != id || n <= part {
				right = append(right, has(id, n))
			}
		}
		x, y := Commit(a, api.Zxid{}, 0, left), Commit(b, api.Zxid{}, 4, right)
		if x.N > part && y.N > part {
			t.Fatalf("both are committed behind %d: %v by %v, %v by %v", part, x, left, y, right)
		}
	}
}
