package quorum

import (
	"fmt"
	"math/rand"
	"testing"

	"witan/api"
	"witan/config"
)

func same(t *testing.T, what string, got, want any) {
	t.Helper()
	if a, b := fmt.Sprint(got), fmt.Sprint(want); a != b {
		t.Errorf("%s: %s, want %s", what, a, b)
	}
}

// of: participants 0, 1, .. with these weights, each two numbers: weight, group.
func of(kind int, l ...int) api.Config {
	c := api.Config{Kind: kind}
	for i := 0; i < len(l); i += 2 {
		c.Members = append(c.Members, api.Member{Id: i / 2, Role: api.Participant, Weight: l[i], Group: l[i+1]})
	}
	return c
}

// P5.1
func TestMajority(t *testing.T) {
	four := of(api.Majority, 0, 0, 0, 0, 0, 0, 0, 0)
	four.Members = append(four.Members, api.Member{Id: 9, Role: api.Observer, Weight: 9})
	for _, x := range []struct {
		set  []int
		want bool
	}{{nil, false}, {[]int{0, 1}, false}, {[]int{0, 1, 2}, true}, {[]int{3, 1, 2}, true}, {[]int{0, 1, 1, 1}, false}, {[]int{0, 1, 9, 7, -1}, false}, {[]int{0, 1, 2, 3, 9}, true}} {
		same(t, fmt.Sprint("Is of ", x.set), Is(four, x.set), x.want)
	}
	same(t, "of a config that may not be", Is(api.Config{Kind: 1}, []int{0, 1, 2, 3}), false)
	wrong := of(4, 1, 0)
	same(t, "of a wrong kind", Is(wrong, []int{0}), false)
}

func TestWeighted(t *testing.T) {
	c := of(api.Weighted, 5, 0, 1, 0, 1, 0)
	for _, x := range []struct {
		set  []int
		want bool
	}{{[]int{0}, true}, {[]int{1, 2}, false}, {[]int{1, 2, 2, 2, 2, 2}, false}} {
		same(t, fmt.Sprint("Is of ", x.set), Is(c, x.set), x.want)
	}
	half := of(api.Weighted, 2, 0, 1, 0, 1, 0, 0, 0)
	same(t, "half is not enough", []bool{Is(half, []int{0}), Is(half, []int{1, 2, 3}), Is(half, []int{0, 3}), Is(half, []int{0, 1})}, []bool{false, false, false, true})
	half.Members[0].Role = api.Observer
	same(t, "an observer's weight", []bool{Is(half, []int{0}), Is(half, []int{1}), Is(half, []int{1, 2})}, []bool{false, false, true})
}

func TestGrouped(t *testing.T) {
	c := of(api.Grouped, 1, 0, 1, 0, 1, 0, 1, 1, 1, 2)
	for _, x := range []struct {
		set  []int
		want bool
	}{{[]int{0, 1, 3}, true}, {[]int{0, 1, 2}, false}, {[]int{3, 4}, true}, {[]int{0, 3}, false}, {[]int{4}, false}} {
		same(t, fmt.Sprint("Is of ", x.set), Is(c, x.set), x.want)
	}
	// A group without weight is none; nor is one in which observers alone have weight.
	none := of(api.Grouped, 1, 0, 0, 5, 0, 6, 3, 7)
	none.Members[3].Role = api.Observer
	same(t, "groups without weight", []bool{Is(none, []int{0}), Is(none, []int{1, 2, 3})}, []bool{true, false})
	two := of(api.Grouped, 1, 0, 1, 1)
	same(t, "half of the groups", []bool{Is(two, []int{0}), Is(two, []int{0, 1})}, []bool{false, true})
}

// P5.2
func TestAll(t *testing.T) {
	a, b := of(api.Majority, 1, 0, 1, 0, 1, 0), of(api.Weighted, 9, 0, 1, 0)
	same(t, "All", []bool{All(nil, []int{0}), All([]api.Config{a}, []int{1, 2}), All([]api.Config{a, b}, []int{1, 2}), All([]api.Config{a, b}, []int{0, 2}), All([]api.Config{b, {}}, []int{0, 1})},
		[]bool{false, true, false, true, false})
	same(t, "Whole", []bool{Whole(a), Whole(b), Whole(api.Config{}), Whole(of(api.Grouped, 0, 0, 1, 1))}, []bool{true, true, false, true})
}

// P5.3
func TestLeast(t *testing.T) {
	same(t, "Least", []int{Least(of(1, 0, 0)), Least(of(1, 0, 0, 0, 0, 0, 0, 0, 0)), Least(of(2, 5, 0, 1, 0, 1, 0)), Least(of(2, 1, 0, 1, 0, 1, 0)), Least(of(3, 1, 0, 1, 0, 1, 0, 1, 1, 1, 2)), Least(api.Config{Kind: 1})},
		[]int{1, 3, 1, 2, 2, -1})
	eight := of(1, make([]int, 16)...)
	nine := of(1, make([]int, 18)...)
	same(t, "Least of many", []int{Least(eight), Least(nine)}, []int{5, -1})
	nine.Members[8].Role = api.Observer
	same(t, "Least of eight and an observer", Least(nine), 5)
}

func TestBlocks(t *testing.T) {
	four := of(1, make([]int, 8)...)
	same(t, "Blocks", []bool{Blocks(four, []int{0, 1}), Blocks(four, []int{0}), Blocks(four, nil), Blocks(four, []int{0, 0, 7}), Blocks(api.Config{Kind: 1}, []int{0})}, []bool{true, false, false, false, false})
}

func some(r *rand.Rand) api.Config {
	c := api.Config{Kind: 1 + r.Intn(3)}
	for id := range 6 {
		if r.Intn(5) > 0 {
			c.Members = append(c.Members, api.Member{Id: id, Role: 1 + r.Intn(5)/4, Weight: r.Intn(4), Group: r.Intn(3)})
		}
	}
	return c
}

func subsets(l []int) [][]int {
	out := [][]int{nil}
	for _, id := range l {
		for _, s := range out {
			out = append(out, append(append([]int{}, s...), id))
		}
	}
	return out
}

func meet(a, b []int) bool {
	for _, x := range a {
		for _, y := range b {
			if x == y {
				return true
			}
		}
	}
	return false
}

// P5.4, P5.5, P5.6, and Least again
func TestQuorums(t *testing.T) {
	r := rand.New(rand.NewSource(1))
	for range 150 {
		c := some(r)
		voters := config.Voters(c)
		sets := subsets(voters)
		var quorums [][]int
		least := -1
		for _, s := range sets {
			if Is(c, s) {
				quorums = append(quorums, s)
				if least < 0 || len(s) < least {
					least = len(s)
				}
			}
			if more := append(append([]int{7}, s...), config.Watchers(c)...); Is(c, more) != Is(c, s) {
				t.Fatalf("who votes not plays a part in %v: %v", c, more)
			}
		}
		same(t, fmt.Sprint("Least of ", c), Least(c), least)
		if (config.Check(c) == api.OK) != (len(quorums) > 0) || Whole(c) != (len(quorums) > 0) {
			t.Fatalf("all participants of %v", c)
		}
		for _, a := range quorums {
			for _, b := range quorums {
				if !meet(a, b) {
					t.Fatalf("of %v, %v and %v are quorums", c, a, b)
				}
			}
			for _, id := range voters {
				if !Is(c, append([]int{id}, a...)) {
					t.Fatalf("of %v %v is a quorum, but not with %d", c, a, id)
				}
			}
			if !Blocks(c, a) {
				t.Fatalf("of %v the quorum %v does not block", c, a)
			}
		}
		for _, s := range sets {
			all := len(quorums) > 0
			for _, q := range quorums {
				all = all && meet(s, q)
			}
			same(t, fmt.Sprint("Blocks of ", c, s), Blocks(c, s), all)
		}
	}
}
