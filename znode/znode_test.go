package znode

import (
	"fmt"
	"math/rand"
	"slices"
	"strings"
	"testing"

	"witan/api"
	"witan/path"
)

func same(t *testing.T, what string, got, want any) {
	t.Helper()
	if a, b := fmt.Sprint(got), fmt.Sprint(want); a != b {
		t.Errorf("%s: %s, want %s", what, a, b)
	}
}

func tree(paths ...string) []api.Znode {
	l := Root()
	for _, p := range paths {
		l = append(l, api.Znode{Path: p})
	}
	return l
}

// P7.1
func TestCheck(t *testing.T) {
	same(t, "Root", Root(), []api.Znode{{Path: "/"}})
	full := Root()
	for i := range api.MaxNodes - 1 {
		full = append(full, api.Znode{Path: fmt.Sprintf("/%02d", i)})
	}
	ends := tree("/a", "/a/b")
	ends[0].Version, ends[0].Kids, ends[0].Data = api.MaxCount, api.MaxCount, strings.Repeat("x", 128)
	ends[2].Owner = 1 << 60
	for i, l := range [][]api.Znode{Root(), tree("/a", "/a/b", "/a/c", "/b"), tree("/a", "/a!", "/a/b"), full, ends} {
		same(t, fmt.Sprint("Check of the tree ", i), Check(l), true)
	}
	for i, l := range [][]api.Znode{nil, {{Path: "/a"}}, tree("/b", "/a"), tree("/a", "/a"), tree("/"), tree("/a/b"), tree("/a", "/ab/c"), tree("/a", "/a/"), tree("a"),
		append(full, api.Znode{Path: "/z"}), tree("/a/b", "/a"), {{Path: "/"}, {Path: ""}}, {{Path: ""}, {Path: "/"}}} {
		same(t, fmt.Sprint("Check of no tree ", i), Check(l), false)
	}
	for i, spoil := range []func(*api.Znode){
		func(z *api.Znode) { z.Version = -1 }, func(z *api.Znode) { z.Version = api.MaxCount + 1 }, func(z *api.Znode) { z.Kids = -1 }, func(z *api.Znode) { z.Kids = api.MaxCount + 1 },
		func(z *api.Znode) { z.Owner = -1 }, func(z *api.Znode) { z.Data = strings.Repeat("x", 129) },
	} {
		l, r := tree("/a"), Root()
		spoil(&l[1])
		spoil(&r[0])
		same(t, fmt.Sprint("Check of a wrong node ", i), []bool{Check(l), Check(r)}, []bool{false, false})
	}
	root, parent := Root(), tree("/a", "/a/b")
	root[0].Owner, parent[1].Owner = 1, 1
	same(t, "an owner above others", []bool{Check(root), Check(parent)}, []bool{false, false})
}

// P7.2
func TestFind(t *testing.T) {
	l := append(tree("/a", "/a/b", "/a/b/c", "/a/c", "/ab"), api.Znode{Path: "/a", Data: "second"}, api.Znode{Path: "bad"})
	z, ok := Find(l, "/a")
	same(t, "Find", []any{z, ok}, []any{api.Znode{Path: "/a"}, true})
	z, ok = Find(l, "/x")
	same(t, "Find of none", []any{z, ok}, []any{api.Znode{}, false})
	same(t, "Children", [][]string{Children(l, "/"), Children(l, "/a"), Children(l, "/ab"), Children(l, ""), Children(l, "/a/")}, [][]string{{"a", "ab", "a"}, {"b", "c"}, nil, nil, nil})
	same(t, "Same", []bool{Same(l, l), Same(nil, []api.Znode{}), Same(l, l[1:]), Same(tree("/a"), tree("/b")), Same(l[:3], l[:4])}, []bool{true, true, false, false, false})
	for i, z := range []api.Znode{{Path: "/b"}, {Path: "/a", Data: "x"}, {Path: "/a", Version: 1}, {Path: "/a", Kids: 1}, {Path: "/a", Owner: 1}} {
		same(t, fmt.Sprint("Same of another ", i), Same([]api.Znode{{Path: "/a"}}, []api.Znode{z}), false)
	}
}

// P7.3
func TestPut(t *testing.T) {
	l := Put(Put(Root(), api.Znode{Path: "/b"}), api.Znode{Path: "/a"})
	same(t, "Put", l, tree("/a", "/b"))
	same(t, "Put of one more", Put(l, api.Znode{Path: "/c", Data: "x"}), append(tree("/a", "/b"), api.Znode{Path: "/c", Data: "x"}))
	same(t, "Put of one that is there", Put(l, api.Znode{Path: "/a", Data: "x"}), []api.Znode{{Path: "/"}, {Path: "/a", Data: "x"}, {Path: "/b"}})
	same(t, "Put into a list out of order", Put([]api.Znode{{Path: "/c"}, {Path: "/a"}, {Path: "/b"}}, api.Znode{Path: "/b"}), []api.Znode{{Path: "/b"}, {Path: "/c"}, {Path: "/a"}, {Path: "/b"}})
	same(t, "Put into nothing", Put(nil, api.Znode{Path: "/a"}), []api.Znode{{Path: "/a"}})
	two := append(tree("/a", "/b"), api.Znode{Path: "/a"})
	same(t, "Gone", [][]api.Znode{Gone(two, "/a"), Gone(two, "/x")}, [][]api.Znode{tree("/b"), two})
	room := append(make([]api.Znode, 0, 9), two...)
	Put(room[:1], api.Znode{Path: "/x"})
	same(t, "the room behind", room, two)
}

func name(r *rand.Rand) string {
	return "/" + string(rune('a'+r.Intn(4)))
}

// P7.4, P7.5, P7.6
func TestTogether(t *testing.T) {
	r := rand.New(rand.NewSource(1))
	for range 300 {
		l := Root()
		for range 40 {
			z := api.Znode{Path: name(r), Version: r.Intn(5)}
			if parent := name(r); r.Intn(2) == 0 && slices.ContainsFunc(l, func(x api.Znode) bool { return x.Path == parent && x.Owner == 0 }) {
				z.Path = parent + z.Path
				z.Owner = r.Intn(2)
			}
			was := l
			if r.Intn(3) > 0 {
				if _, there := Find(l, z.Path); there {
					continue
				}
				l = Put(l, z)
				got, ok := Find(l, z.Path)
				same(t, "what was put", []any{got, ok}, []any{z, true})
				same(t, "Put twice", Put(l, z), l)
			} else {
				if len(Children(l, z.Path)) > 0 {
					continue
				}
				l = Gone(l, z.Path)
				_, there := Find(l, z.Path)
				same(t, "what is gone", there, false)
				same(t, "Gone twice", Gone(l, z.Path), l)
			}
			same(t, "all others", Gone(l, z.Path), Gone(was, z.Path))
			if !Check(l) {
				t.Fatalf("no tree any more: %v", l)
			}
			for _, x := range l {
				if p, ok := path.Parent(x.Path); ok && !slices.Contains(Children(l, p), path.Name(x.Path)) {
					t.Fatalf("%s is no child", x.Path)
				}
			}
		}
	}
}
