package session

import (
	"fmt"
	"math"
	"testing"

	"witan/api"
)

func same(t *testing.T, what string, got, want any) {
	t.Helper()
	if a, b := fmt.Sprint(got), fmt.Sprint(want); a != b {
		t.Errorf("%s: %s, want %s", what, a, b)
	}
}

// P11.1
func TestRenew(t *testing.T) {
	l := []api.Seen{{Session: 3, Left: 1}, {Session: 5, Left: 2}, {Session: 3, Left: 9}}
	same(t, "Renew", Renew(l, []int{7, 3, 3, 8}, 24), []api.Seen{{Session: 7, Left: 24}, {Session: 3, Left: 1}, {Session: 3, Left: 1}, {Session: 8, Left: 24}})
	same(t, "Renew of nothing", []any{Renew(nil, []int{3, 5}, 2), Renew(l, nil, 2)}, []any{[]api.Seen{{Session: 3, Left: 2}, {Session: 5, Left: 2}}, []api.Seen{}})
	same(t, "a span as it is", Renew(nil, []int{1}, -4), []api.Seen{{Session: 1, Left: -4}})
}

func TestTouch(t *testing.T) {
	l := []api.Seen{{Session: 3, Left: 1}, {Session: 5, Left: 2}, {Session: 3, Left: 9}}
	same(t, "Touch", Touch(l, []int{8, 3}, 24), []api.Seen{{Session: 3, Left: 24}, {Session: 5, Left: 2}, {Session: 3, Left: 24}})
	same(t, "Touch of none", []any{Touch(l, nil, 24), Touch(nil, []int{1}, 24)}, []any{l, []api.Seen{}})
}

// P11.2
func TestTick(t *testing.T) {
	l := []api.Seen{{Session: 5, Left: 2}, {Session: 3, Left: 1}, {Session: 4, Left: 0}, {Session: 9, Left: -3}, {Session: 1, Left: math.MinInt}}
	rows, over := Tick(l)
	same(t, "Tick", []any{rows, over}, []any{[]api.Seen{{Session: 5, Left: 1}, {Session: 3, Left: 0}, {Session: 4, Left: 0}, {Session: 9, Left: -3}, {Session: 1, Left: math.MinInt}}, []int{3, 4, 9, 1}})
	rows, over = Tick(nil)
	same(t, "Tick of none", []int{len(rows), len(over)}, []int{0, 0})
}

// P11.3
func TestSpan(t *testing.T) {
	for span := 1; span < 9; span++ {
		rows := Renew(nil, []int{1, 2}, span)
		for tick := 1; tick < 40; tick++ {
			var over []int
			rows, over = Tick(rows)
			var want []int
			if tick >= span {
				want = append(want, 1)
			}
			if span == 1 {
				want = append(want, 2)
			}
			same(t, fmt.Sprint("over at the tick ", tick, " of ", span), over, want)
			if span > 1 && tick%(span-1) == 0 {
				rows = Touch(rows, []int{2}, span)
			}
		}
	}
}
