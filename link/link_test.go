package link

import (
	"fmt"
	"math/rand"
	"testing"

	"witan/api"
)

func same(t *testing.T, what string, got, want any) {
	t.Helper()
	if a, b := fmt.Sprint(got), fmt.Sprint(want); a != b {
		t.Errorf("%s: %s, want %s", what, a, b)
	}
}

// of: messages from, to, from, to, ..; the i-th has Epoch i.
func of(l ...int) []api.Msg {
	var out []api.Msg
	for i := 0; i < len(l); i += 2 {
		out = append(out, api.Msg{From: l[i], To: l[i+1], Epoch: i / 2})
	}
	return out
}

func epochs(l []api.Msg) []int {
	var out []int
	for _, m := range l {
		out = append(out, m.Epoch)
	}
	return out
}

// P25.1
func TestPairs(t *testing.T) {
	same(t, "Two", []api.Pair{Two(1, 2), Two(2, 1), Two(3, 3)}, []api.Pair{{A: 1, B: 2}, {A: 1, B: 2}, {A: 3, B: 3}})
	l := []api.Pair{{A: 1, B: 2}, {A: 0, B: 3}, {A: 1, B: 2}}
	same(t, "Has", []bool{Has(l, 2, 1), Has(l, 0, 3), Has(l, 0, 1), Has(nil, 1, 2)}, []bool{true, true, false, false})
	same(t, "Set", [][]api.Pair{Set(l, 2, 1, true), Set(l, 1, 2, false), Set(l, 4, 5, true), Set(nil, 4, 5, false)}, [][]api.Pair{{{A: 0, B: 3}, {A: 1, B: 2}}, {{A: 0, B: 3}}, append(l[:3:3], api.Pair{A: 4, B: 5}), {}})
	same(t, "a pair the wrong way round is none", Has([]api.Pair{{A: 2, B: 1}}, 1, 2), false)
}

// P25.2
func TestSend(t *testing.T) {
	l, lost := Send(of(0, 1), of(1, 2, 3, 3, 0, 2, 2, 0, 1, 0), []api.Pair{{A: 0, B: 2}})
	same(t, "Send", []any{epochs(l), lost}, []any{[]int{0, 0, 4}, []api.Pair{}})
	var full []int
	for range 40 {
		full = append(full, 0, 1)
	}
	full = append(full, 1, 0, 1, 2)
	l, lost = Send(of(full...), of(1, 0, 2, 1, 0, 1, 1, 0, 0, 1, 2, 1), nil)
	same(t, "one too many", []any{l, lost}, []any{[]api.Msg{{From: 1, To: 2, Epoch: 41}, {From: 2, To: 1, Epoch: 1}, {From: 2, To: 1, Epoch: 5}}, []api.Pair{{A: 0, B: 1}}})
	var more []int
	for range 41 {
		more = append(more, 3, 2, 1, 0)
	}
	l, lost = Send(nil, of(more...), nil)
	same(t, "two pairs, in order", []any{len(l), lost}, []any{0, []api.Pair{{A: 2, B: 3}, {A: 0, B: 1}}})
	l, lost = Send(nil, of(more[:160]...), nil)
	same(t, "just so many", []any{len(l), len(lost)}, []any{80, 0})
}

// P25.3, and the example
func TestTake(t *testing.T) {
	l := of(0, 1, 0, 2, 0, 1, 1, 0, 0, 2)
	same(t, "Firsts", [][]int{Firsts(l), Firsts(nil)}, [][]int{{0, 1, 3}, nil})
	m, rest, ok := Take(l, 0)
	same(t, "Take", []any{m.Epoch, epochs(rest), ok, Firsts(rest)}, []any{0, []int{1, 2, 3, 4}, true, []int{0, 1, 2}})
	m, rest, ok = Take(l, 2)
	same(t, "Take of the last", []any{m.Epoch, epochs(rest), ok}, []any{3, []int{0, 1, 2, 4}, true})
	for _, k := range []int{-1, 3, 1 << 62} {
		m, rest, ok = Take(l, k)
		same(t, "Take of none", []any{m, epochs(rest), ok}, []any{api.Msg{}, epochs(l), false})
	}
	same(t, "the example", []any{Firsts(of(0, 1, 0, 2, 0, 1)), Firsts(of(0, 2, 0, 1))}, []any{[]int{0, 1}, []int{0, 1}})
}

// P25.4
func TestReset(t *testing.T) {
	l := of(0, 1, 1, 0, 0, 2, 2, 1, 1, 1)
	same(t, "Reset", [][]int{epochs(Reset(l, 1, 0)), epochs(Reset(l, 3, 4)), epochs(Reset(l, 1, 1))}, [][]int{{2, 3, 4}, {0, 1, 2, 3, 4}, {0, 1, 2, 3}})
	same(t, "Alone", [][]int{epochs(Alone(l, 0)), epochs(Alone(l, 1)), epochs(Alone(l, 9))}, [][]int{{3, 4}, {2}, {0, 1, 2, 3, 4}})
}

// P25.5, P25.6, P25.7
func TestInOrder(t *testing.T) {
	r := rand.New(rand.NewSource(1))
	for range 200 {
		var way []api.Msg
		sent, come := map[api.Pair]int{}, map[api.Pair]int{}
		for range 300 {
			if r.Intn(3) > 0 {
				var more []api.Msg
				for range r.Intn(4) {
					from, to := r.Intn(3), r.Intn(2)
					if from == to {
						continue
					}
					p := api.Pair{A: from, B: to}
					more = append(more, api.Msg{From: from, To: to, Epoch: sent[p]})
					sent[p]++
				}
				var lost []api.Pair
				way, lost = Send(way, more, nil)
				for _, p := range lost {
					for _, q := range []api.Pair{p, {A: p.B, B: p.A}} {
						come[q] = sent[q]
					}
				}
			}
			if m, rest, ok := Take(way, r.Intn(4)); ok {
				p := api.Pair{A: m.From, B: m.To}
				if m.Epoch != come[p] {
					t.Fatalf("the %d-th from %d to %d comes as the %d-th", m.Epoch, m.From, m.To, come[p])
				}
				come[p]++
				way = rest
			}
			n := map[api.Pair]int{}
			for _, m := range way {
				n[api.Pair{A: m.From, B: m.To}]++
			}
			for p, k := range n {
				if k > api.MaxQueue || k != sent[p]-come[p] {
					t.Fatalf("%d are on the way from %d to %d, of %d", k, p.A, p.B, sent[p]-come[p])
				}
			}
		}
	}
}
