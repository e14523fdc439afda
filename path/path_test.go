package path

import (
	"fmt"
	"math"
	"math/rand"
	"strings"
	"testing"

	"witan/api"
)

func same(t *testing.T, what string, got, want any) {
	t.Helper()
	if a, b := fmt.Sprint(got), fmt.Sprint(want); a != b {
		t.Errorf("%s: %s, want %s", what, a, b)
	}
}

var (
	name16 = strings.Repeat("x", 16)
	full   = "/" + strings.Repeat("x", 15) + strings.Repeat("/"+strings.Repeat("x", 15), 3) // 64 bytes
)

var noPaths = []string{"", "a", "//", "/a/", "/a//b", "/.", "/..", "/a/.", "/a/../b", "/ a", "/a b", "/a\x7f", "/\x20", "/é", "/" + name16 + "x", "a/b", "/a\x00"}

// P3.1
func TestCheck(t *testing.T) {
	for _, p := range []string{"/", "/a", "/a/b", "/...", "/.a", "/!~", "/" + name16, full, "/a:b"} {
		same(t, "Check of "+p, Check(p), api.OK)
	}
	for _, p := range noPaths {
		same(t, "Check of "+p, Check(p), api.ErrArg)
	}
	same(t, "Check of 64 bytes", []any{len(full), Check(full)}, []any{64, api.OK})
	same(t, "Check of 65 bytes", Check(full+"y"), api.ErrLong)
	same(t, "Check of 65 wrong bytes", Check(strings.Repeat(" ", 65)), api.ErrLong)
}

// P3.2
func TestParts(t *testing.T) {
	for p, want := range map[string][]any{
		"/": {"", false, "", 0}, "/a": {"/", true, "a", 1}, "/a/b": {"/a", true, "b", 2}, "/a/b/cc": {"/a/b", true, "cc", 3},
		"/a/": {"", false, "", -1}, "": {"", false, "", -1}, "a": {"", false, "", -1}, full + "y": {"", false, "", -1},
	} {
		parent, ok := Parent(p)
		same(t, "parts of "+p, []any{parent, ok, Name(p), Depth(p)}, want)
	}
}

// P3.3
func TestJoin(t *testing.T) {
	for _, c := range []struct {
		p, name, want string
		e             api.Errno
	}{
		{"/", "a", "/a", api.OK}, {"/a", "b", "/a/b", api.OK}, {"/", name16, "/" + name16, api.OK},
		{"a", "b", "", api.ErrArg}, {full + "y", "", "", api.ErrLong}, {"/a", "", "", api.ErrArg}, {"/a", "b/c", "", api.ErrArg}, {"/a", "/b", "", api.ErrArg},
		{"/a", "..", "", api.ErrArg}, {"/a", name16 + "x", "", api.ErrArg}, {"/", "/", "", api.ErrArg},
		{full, "b", "", api.ErrLong}, {full, "", "", api.ErrArg}, {full[:62], "b", full[:62] + "/b", api.OK}, {full[:63], "b", "", api.ErrLong},
	} {
		got, e := Join(c.p, c.name)
		same(t, "Join of "+c.p+" and "+c.name, []any{got, e}, []any{c.want, c.e})
	}
}

func TestBelow(t *testing.T) {
	for _, c := range []struct {
		p, q string
		want bool
	}{
		{"/a", "/", true}, {"/a/b", "/", true}, {"/a/b", "/a", true}, {"/a/b/c", "/a", true},
		{"/", "/", false}, {"/a", "/a", false}, {"/ab", "/a", false}, {"/a", "/a/b", false}, {"/", "/a", false},
		{"/a/", "/a", false}, {"/a/b", "/a/", false}, {"/a", "", false}, {"", "", false}, {full + "y", full, false},
	} {
		same(t, "Below of "+c.p+" and "+c.q, Below(c.p, c.q), c.want)
	}
}

// P3.4
func TestNumbered(t *testing.T) {
	for _, c := range []struct {
		p    string
		n    int
		want string
		e    api.Errno
	}{
		{"/q-", 3, "/q-0000000003", api.OK}, {"/", 3, "/0000000003", api.OK}, {"/a/", 7, "/a/0000000007", api.OK},
		{"/q", 9999999999, "/q9999999999", api.OK}, {"/q", 10000000000, "", api.ErrArg}, {"/q", -1, "", api.ErrArg}, {"/q", math.MinInt, "", api.ErrArg},
		{full + "y", -1, "", api.ErrLong}, {full, -1, "", api.ErrArg}, {full, 0, "", api.ErrLong}, {full[:54], 0, full[:54] + "0000000000", api.OK},
		{"", 1, "", api.ErrArg}, {"q", 1, "", api.ErrArg}, {"/1234567", 1, "", api.ErrArg}, {"/123456", 1, "/1234560000000001", api.OK}, {"//", 1, "", api.ErrArg},
	} {
		got, e := Numbered(c.p, c.n)
		same(t, fmt.Sprint("Numbered of ", c.p, c.n), []any{got, e}, []any{c.want, c.e})
	}
}

func some(r *rand.Rand) string {
	p := ""
	for range r.Intn(5) {
		p += "/" + []string{"a", "b", "ab", ".a", "q-"}[r.Intn(5)]
	}
	if p == "" {
		return "/"
	}
	return p
}

// P3.5, P3.6
func TestTogether(t *testing.T) {
	r := rand.New(rand.NewSource(1))
	for range 5000 {
		p, q, s := some(r), some(r), some(r)
		if parent, ok := Parent(p); ok {
			back, e := Join(parent, Name(p))
			same(t, "Join of Parent and Name", []any{back, e}, []any{p, api.OK})
			same(t, "Depth of Parent", Depth(parent), Depth(p)-1)
			same(t, "Below the parent", Below(p, parent), true)
		}
		if Below(p, q) && Below(q, s) && !Below(p, s) || Below(p, p) {
			t.Errorf("Below is no order of %s, %s, %s", p, q, s)
		}
	}
}

// P3.7
func TestNumberedRises(t *testing.T) {
	row := []int{0, 1, 2, 9, 10, 11, 99, 100, 12345, 999999999, 1000000000, 9999999999}
	for i, n := range row[1:] {
		a, _ := Numbered("/q", row[i])
		b, _ := Numbered("/q", n)
		if a >= b {
			t.Errorf("%s is not below %s", a, b)
		}
	}
}
