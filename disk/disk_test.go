package disk

import (
	"bytes"
	"fmt"
	"math/rand"
	"strings"
	"testing"

	"witan/api"
)

func same(t *testing.T, what string, got, want any) {
	t.Helper()
	if a, b := fmt.Sprint(got), fmt.Sprint(want); a != b {
		t.Errorf("%s: %s, want %s", what, a, b)
	}
}

// must does an operation that has no error.
func must(d api.Disk, e api.Errno) api.Disk {
	if e != api.OK {
		panic(fmt.Sprint("error ", e))
	}
	return d
}

func file(name, data string, sure int) api.File {
	return api.File{Name: name, Data: []byte(data), Sure: sure}
}

func with(l ...api.File) api.Disk { return api.Disk{Files: l, Cap: 100} }

// P13.1
func TestNew(t *testing.T) {
	same(t, "New", []api.Disk{New(7), New(0), New(-3)}, []api.Disk{{Cap: 7}, {}, {}})
	same(t, "Used", []int{Used(New(7)), Used(with(file("a", "abc", 0), file("b", "de", 2)))}, []int{0, 5})
	d := func() api.Disk { return with(file("a", "abc", 1), file("b", "de", 2)) }
	same(t, "Same", Same(d(), d()), true)
	for i, turn := range []func(*api.Disk){func(d *api.Disk) { d.Cap = 1 }, func(d *api.Disk) { d.Fuse = 1 }, func(d *api.Disk) { d.Down = true }, func(d *api.Disk) { d.Files = d.Files[:1] },
		func(d *api.Disk) { d.Files[0].Name = "x" }, func(d *api.Disk) { d.Files[0].Data[1] = 0 }, func(d *api.Disk) { d.Files[0].Sure = 0 }} {
		x := d()
		turn(&x)
		same(t, fmt.Sprint("Same of another ", i), []bool{Same(x, d()), Same(d(), x)}, []bool{false, false})
	}
	for _, name := range []string{"", "A", "a/b", "a b", "a-b", strings.Repeat("a", 25), "é", "\x00"} {
		x, e := Append(New(100), name, nil)
		same(t, "no file's name "+name, []any{x, e}, []any{New(100), api.ErrArg})
	}
	for _, name := range []string{"a", ".", "0", "log.12", strings.Repeat("z", 24)} {
		_, e := Append(New(100), name, nil)
		same(t, "a file's name "+name, e, api.OK)
	}
}

// P13.2
func TestRead(t *testing.T) {
	d := with(file("a", "abc", 1))
	b, e := Read(d, "a")
	same(t, "Read", []any{string(b), e}, []any{"abc", api.OK})
	_, e = Read(d, "b")
	same(t, "Read of none", e, api.ErrNone)
	d.Down = true
	b, e = Read(d, "b")
	same(t, "Read while it is down", []any{len(b), e}, []any{0, api.ErrDown})
}

// P13.3
func TestAppend(t *testing.T) {
	d := must(Append(must(Append(New(10), "b", []byte("abc"))), "a", nil))
	d = must(Append(d, "b", []byte("de")))
	same(t, "Append", d, api.Disk{Files: []api.File{file("a", "", 0), file("b", "abcde", 0)}, Cap: 10})
	full, e := Append(d, "c", []byte("123456"))
	same(t, "more than Cap", []any{full, e}, []any{d, api.ErrFull})
	_, e = Append(d, "c", []byte("12345"))
	same(t, "just Cap", e, api.OK)
	d.Cap = 4
	_, e = Append(d, "c", nil)
	same(t, "Cap is less by now", e, api.ErrFull)
	_, e = Append(d, "C", make([]byte, 99))
	same(t, "a wrong name first", e, api.ErrArg)
	d.Down = true
	_, e = Append(d, "C", nil)
	same(t, "down first", e, api.ErrDown)
}

func TestOperations(t *testing.T) {
	d := with(file("a", "abc", 1), file("b", "de", 0), file("c", "f", 1))
	for _, c := range []struct {
		what string
		do   func(api.Disk) (api.Disk, api.Errno)
		want []api.File
		e    api.Errno
	}{
		{"Sync", func(d api.Disk) (api.Disk, api.Errno) { return Sync(d, "b") }, []api.File{file("a", "abc", 1), file("b", "de", 2), file("c", "f", 1)}, api.OK},
		{"Sync of none", func(d api.Disk) (api.Disk, api.Errno) { return Sync(d, "x") }, d.Files, api.ErrNone},
		{"Cut", func(d api.Disk) (api.Disk, api.Errno) { return Cut(d, "a", 2) }, []api.File{file("a", "ab", 2), file("b", "de", 0), file("c", "f", 1)}, api.OK},
		{"Cut to nothing", func(d api.Disk) (api.Disk, api.Errno) { return Cut(d, "a", 0) }, []api.File{file("a", "", 0), file("b", "de", 0), file("c", "f", 1)}, api.OK},
		{"Cut of nothing", func(d api.Disk) (api.Disk, api.Errno) { return Cut(d, "a", 3) }, []api.File{file("a", "abc", 3), file("b", "de", 0), file("c", "f", 1)}, api.OK},
		{"Cut of more", func(d api.Disk) (api.Disk, api.Errno) { return Cut(d, "a", 4) }, d.Files, api.ErrArg},
		{"Cut below", func(d api.Disk) (api.Disk, api.Errno) { return Cut(d, "a", -1) }, d.Files, api.ErrArg},
		{"Cut of none", func(d api.Disk) (api.Disk, api.Errno) { return Cut(d, "x", -1) }, d.Files, api.ErrNone},
		{"Remove", func(d api.Disk) (api.Disk, api.Errno) { return Remove(d, "b") }, []api.File{file("a", "abc", 1), file("c", "f", 1)}, api.OK},
		{"Remove of none", func(d api.Disk) (api.Disk, api.Errno) { return Remove(d, "x") }, d.Files, api.ErrNone},
		{"Rename", func(d api.Disk) (api.Disk, api.Errno) { return Rename(d, "a", "bb") }, []api.File{file("b", "de", 0), file("bb", "abc", 1), file("c", "f", 1)}, api.OK},
		{"Rename ahead", func(d api.Disk) (api.Disk, api.Errno) { return Rename(d, "c", "0") }, []api.File{file("0", "f", 1), file("a", "abc", 1), file("b", "de", 0)}, api.OK},
		{"Rename over one", func(d api.Disk) (api.Disk, api.Errno) { return Rename(d, "a", "c") }, []api.File{file("b", "de", 0), file("c", "abc", 1)}, api.OK},
		{"Rename over one ahead", func(d api.Disk) (api.Disk, api.Errno) { return Rename(d, "c", "a") }, []api.File{file("a", "f", 1), file("b", "de", 0)}, api.OK},
		{"Rename to its own name", func(d api.Disk) (api.Disk, api.Errno) { return Rename(d, "b", "b") }, d.Files, api.OK},
		{"Rename of none", func(d api.Disk) (api.Disk, api.Errno) { return Rename(d, "x", "y") }, d.Files, api.ErrNone},
		{"Rename to no name", func(d api.Disk) (api.Disk, api.Errno) { return Rename(d, "x", "Y") }, d.Files, api.ErrArg},
	} {
		got, e := c.do(d)
		same(t, c.what, []any{got, e}, []any{with(c.want...), c.e})
		down := with(d.Files...)
		down.Down = true
		got, e = c.do(down)
		same(t, c.what+" while it is down", []any{got, e}, []any{down, api.ErrDown})
		fail := d
		fail.Fuse = 1
		got, e = c.do(fail)
		if c.e == api.OK {
			same(t, c.what+" as the power fails", []any{got, e}, []any{down, api.ErrDown})
		} else {
			same(t, c.what+" with a fuse", []any{got, e}, []any{fail, c.e})
		}
	}
}

func TestFuse(t *testing.T) {
	d := Arm(New(100), 3)
	d = must(Append(d, "a", []byte("abc")))
	d = must(Sync(d, "a"))
	same(t, "the fuse burns", d.Fuse, 1)
	d, e := Append(d, "b", []byte("de"))
	same(t, "an Append as the power fails", []any{d, e}, []any{api.Disk{Files: []api.File{file("a", "abc", 3), file("b", "de", 0)}, Cap: 100, Down: true}, api.ErrDown})
	same(t, "Arm of one that is down", Arm(d, 4), d)
	same(t, "Arm", []int{Arm(New(1), -1).Fuse, Arm(Arm(New(1), 5), 0).Fuse, Arm(New(1), 5).Fuse}, []int{0, 0, 5})
}

// P13.4, and the example
func TestCrash(t *testing.T) {
	d := must(Sync(must(Append(New(100), "log", []byte("abc"))), "log"))
	d = must(Append(d, "log", []byte("de")))
	d = Arm(must(Append(d, "z", []byte("xyz"))), 7)
	for _, c := range []struct {
		keep []int
		log  string
		z    string
	}{{[]int{1}, "abcd", ""}, {nil, "abc", ""}, {[]int{-5, 2}, "abc", "xy"}, {[]int{99, 3, 9}, "abcde", "xyz"}, {[]int{1 << 62, 1 << 62}, "abcde", "xyz"}} {
		got := Crash(d, c.keep)
		want := api.Disk{Files: []api.File{file("log", c.log, len(c.log)), file("z", c.z, len(c.z))}, Cap: 100, Down: true}
		same(t, fmt.Sprint("Crash of ", c.keep), got, want)
		same(t, "a second crash", Crash(got, []int{9, 9}), want)
		want.Down = false
		same(t, "Start", Start(got), want)
	}
}

// model: what each file has, and what of it is safe.
type model map[string]*struct{ all, safe string }

// P13.5, P13.6, P13.7
func TestTogether(t *testing.T) {
	r := rand.New(rand.NewSource(1))
	names := []string{"a", "b", "log.1"}
	for range 400 {
		d := New(30)
		m := model{}
		for range 30 {
			name, to, n := names[r.Intn(3)], names[r.Intn(3)], r.Intn(8)
			was := d
			var e api.Errno
			switch r.Intn(5) {
			case 0, 1:
				b := bytes.Repeat([]byte{byte('a' + n)}, n)
				if d, e = Append(d, name, b); e == api.OK {
					if m[name] == nil {
						m[name] = &struct{ all, safe string }{}
					}
					m[name].all += string(b)
				}
			case 2:
				if d, e = Sync(d, name); e == api.OK {
					m[name].safe = m[name].all
				}
			case 3:
				if d, e = Cut(d, name, n); e == api.OK {
					m[name].all = m[name].all[:n]
					m[name].safe = m[name].all
				}
			case 4:
				if d, e = Rename(d, name, to); e == api.OK && name != to {
					m[to] = m[name]
					delete(m, name)
				}
			}
			if e != api.OK && !Same(d, was) || Used(d) > 30 {
				t.Fatalf("error %d makes %v of %v", e, d, was)
			}
		}
		down := Crash(d, []int{r.Intn(4), r.Intn(4), r.Intn(4)})
		same(t, "files", len(down.Files), len(m))
		for i, f := range down.Files {
			x := m[f.Name]
			if !strings.HasPrefix(x.all, string(f.Data)) || !strings.HasPrefix(string(f.Data), x.safe) || i > 0 && down.Files[i-1].Name >= f.Name {
				t.Fatalf("behind a crash %q has %q, of %q with %q safe", f.Name, f.Data, x.all, x.safe)
			}
		}
	}
}
