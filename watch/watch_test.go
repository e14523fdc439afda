package watch

import (
	"fmt"
	"math/rand"
	"testing"

	"witan/api"
	"witan/state"
)

func same(t *testing.T, what string, got, want any) {
	t.Helper()
	if a, b := fmt.Sprint(got), fmt.Sprint(want); a != b {
		t.Errorf("%s: %s, want %s", what, a, b)
	}
}

func of(nodes ...api.Znode) api.State {
	s := state.Start(api.Config{})
	s.Nodes = append(s.Nodes, nodes...)
	s.At.N = len(nodes)
	return s
}

// P10.1
func TestAdd(t *testing.T) {
	for _, w := range []api.Watch{{Session: 0, Kind: 1, Path: "/"}, {Session: -1, Kind: 1, Path: "/"}, {Session: 1, Kind: 0, Path: "/"}, {Session: 1, Kind: 3, Path: "/"}, {Session: 1, Kind: 1, Path: "a"}, {}} {
		l, e := Add([]api.Watch{{Session: 1, Kind: 1, Path: "/"}}, w)
		same(t, fmt.Sprint("Add of ", w), []any{l, e}, []any{[]api.Watch{{Session: 1, Kind: 1, Path: "/"}}, api.ErrArg})
	}
	row := []api.Watch{{Session: 1, Kind: 1, Path: "/"}, {Session: 1, Kind: 1, Path: "/a"}, {Session: 1, Kind: 2, Path: "/"}, {Session: 2, Kind: 1, Path: "/"}}
	for i, w := range row {
		var others []api.Watch
		others = append(append(others, row[:i]...), row[i+1:]...)
		l, e := Add(others, w)
		same(t, "Add at its place", []any{l, e}, []any{row, api.OK})
		l, e = Add(row, w)
		same(t, "Add of one that is there", []any{l, e}, []any{row, api.OK})
	}
	l, e := Add([]api.Watch{row[3], row[0]}, row[0])
	same(t, "Add to a list out of order", []any{l, e}, []any{[]api.Watch{row[0], row[3], row[0]}, api.OK})
}

func TestFull(t *testing.T) {
	var l []api.Watch
	for n := range api.MaxWatches {
		var e api.Errno
		l, e = Add(l, api.Watch{Session: n + 1, Kind: 1, Path: "/"})
		same(t, "Add", e, api.OK)
	}
	more, e := Add(l, api.Watch{Session: 3, Kind: 2, Path: "/"})
	same(t, "one too many", []any{more, e}, []any{l, api.ErrFull})
	more, e = Add(l, l[7])
	same(t, "one that is there", []any{more, e}, []any{l, api.OK})
	_, e = Add(l, api.Watch{Session: 3, Kind: 2})
	same(t, "a wrong one", e, api.ErrArg)
}

func TestDrop(t *testing.T) {
	l := []api.Watch{{Session: 1, Kind: 1, Path: "/"}, {Session: 2, Kind: 1, Path: "/"}, {Session: 2, Kind: 2, Path: "/"}, {Session: 3, Kind: 1, Path: "/"}}
	same(t, "Drop", [][]api.Watch{Drop(l, 2), Drop(l, 9), Drop(nil, 1)}, [][]api.Watch{{l[0], l[3]}, l, nil})
}

// P10.2
func TestTold(t *testing.T) {
	a := api.Znode{Path: "/a", Data: "x", Version: 1, Kids: 1}
	turn := func(f func(*api.Znode)) api.State {
		z := a
		f(&z)
		return of(z)
	}
	for i, c := range []struct {
		was, now   api.State
		data, kids int
	}{
		{of(), of(a), api.NoteCreated, api.NoteCreated}, {of(a), of(), api.NoteGone, api.NoteGone}, {of(a), of(a), 0, 0}, {of(), of(), 0, 0},
		{of(a), turn(func(z *api.Znode) { z.Data = "y" }), api.NoteChanged, 0}, {of(a), turn(func(z *api.Znode) { z.Version = 2 }), api.NoteChanged, 0},
		{of(a), turn(func(z *api.Znode) { z.Owner = 2 }), api.NoteChanged, 0}, {of(a), turn(func(z *api.Znode) { z.Kids = 2 }), 0, api.NoteKids},
		{of(a), of(a, api.Znode{Path: "/a/b"}), 0, api.NoteKids}, {of(a, api.Znode{Path: "/a/b"}), of(a, api.Znode{Path: "/a/c"}), 0, api.NoteKids},
		{of(a, api.Znode{Path: "/a/b"}), of(a, api.Znode{Path: "/a/b", Data: "z"}), 0, 0}, {of(a, api.Znode{Path: "/b"}), of(a), 0, 0},
	} {
		got := []int{Told(api.Watch{Session: 1, Kind: api.WatchData, Path: "/a"}, c.was, c.now), Told(api.Watch{Session: 1, Kind: api.WatchKids, Path: "/a"}, c.was, c.now)}
		same(t, fmt.Sprint("Told ", i), got, []int{c.data, c.kids})
	}
	same(t, "another kind", Told(api.Watch{Kind: 3, Path: "/a"}, of(a), turn(func(z *api.Znode) { z.Kids, z.Data = 2, "y" })), 0)
}

// P10.3
func TestFire(t *testing.T) {
	was, now := of(api.Znode{Path: "/a"}, api.Znode{Path: "/b"}), of(api.Znode{Path: "/a", Version: 1}, api.Znode{Path: "/b"}, api.Znode{Path: "/c"})
	l := []api.Watch{{Session: 1, Kind: 1, Path: "/a"}, {Session: 1, Kind: 1, Path: "/b"}, {Session: 1, Kind: 2, Path: "/"}, {Session: 2, Kind: 1, Path: "/c"}}
	left, notes := Fire(l, was, now)
	at := now.At
	same(t, "left", left, l[1:2])
	same(t, "notes", notes, []api.Note{{Session: 1, Kind: 1, Path: "/a", What: api.NoteChanged, At: at}, {Session: 1, Kind: 2, Path: "/", What: api.NoteKids, At: at}, {Session: 2, Kind: 1, Path: "/c", What: api.NoteCreated, At: at}})
	left, notes = Fire(left, was, now)
	same(t, "fired again", []any{left, len(notes)}, []any{l[1:2], 0})
}

func some(r *rand.Rand) api.State {
	var l []api.Znode
	for _, p := range []string{"/a", "/a/b", "/a/c", "/d"} {
		if r.Intn(2) == 0 && (len(p) < 3 || len(l) > 0 && l[0].Path == "/a") {
			l = append(l, api.Znode{Path: p, Version: r.Intn(2), Kids: r.Intn(2)})
		}
	}
	return of(l...)
}

// P10.4, P10.5
func TestNothingTold(t *testing.T) {
	r := rand.New(rand.NewSource(1))
	for range 3000 {
		was, now := some(r), some(r)
		p := []string{"/", "/a", "/a/b", "/d"}[r.Intn(4)]
		z, e := state.Get(was, p)
		y, f := state.Get(now, p)
		z.Kids, y.Kids = 0, 0
		if Told(api.Watch{Kind: api.WatchData, Path: p}, was, now) == 0 && (z != y || e != f) {
			t.Fatalf("nobody is told that %v becomes %v", z, y)
		}
		k, _ := state.Kids(was, p)
		m, _ := state.Kids(now, p)
		if Told(api.Watch{Kind: api.WatchKids, Path: p}, was, now) == 0 && (fmt.Sprint(k) != fmt.Sprint(m) || e != f) {
			t.Fatalf("nobody is told that %v become %v", k, m)
		}
	}
}

func TestAnyOrder(t *testing.T) {
	r := rand.New(rand.NewSource(1))
	var row []api.Watch
	for _, p := range []string{"/", "/a", "/a!", "/a/b"} {
		row = append(row, api.Watch{Session: 1, Kind: 1, Path: p}, api.Watch{Session: 1, Kind: 2, Path: p}, api.Watch{Session: 12, Kind: 1, Path: p})
	}
	var first []api.Watch
	for i := range 50 {
		var l []api.Watch
		for _, k := range r.Perm(len(row)) {
			l, _ = Add(l, row[k])
		}
		if i == 0 {
			first = l
		}
		same(t, "added in another order", l, first)
	}
}
