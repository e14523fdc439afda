package keep

import (
	"fmt"
	"math/rand"
	"slices"
	"testing"

	"witan/api"
	"witan/codec"
	"witan/disk"
	"witan/journal"
	"witan/record"
	"witan/state"
)

func same(t *testing.T, what string, got, want any) {
	t.Helper()
	if a, b := fmt.Sprint(got), fmt.Sprint(want); a != b {
		t.Errorf("%s: %s, want %s", what, a, b)
	}
}

func conf() api.Config {
	return api.Config{Kind: 1, Members: []api.Member{{Id: 0, Role: 1, Weight: 1}}}
}

func txns(epoch int, l ...int) []api.Txn {
	var out []api.Txn
	for _, n := range l {
		out = append(out, api.Txn{At: api.Zxid{Epoch: epoch, N: n}, Parts: []api.Part{{Kind: api.PartPut, Node: api.Znode{Path: "/a", Version: n}}}})
	}
	return out
}

func names(d api.Disk) []string {
	var l []string
	for _, f := range d.Files {
		l = append(l, f.Name)
	}
	return l
}

func formatted() (api.Disk, api.Saved) {
	d, _ := Format(disk.New(100000), conf())
	s, d, _ := Load(d)
	return d, s
}

func put(d api.Disk, name string, load ...[]byte) api.Disk {
	d, _ = disk.Remove(d, name)
	for _, l := range load {
		f, _ := codec.Seal(l)
		d, _ = disk.Append(d, name, f)
	}
	return d
}

// P15.1
func TestFormat(t *testing.T) {
	d, e := Format(disk.New(1000), conf())
	load := record.PutState(codec.PutInt(nil, 1), state.Start(conf()))
	f, _ := codec.Seal(load)
	same(t, "Format", []any{d, e}, []any{api.Disk{Files: []api.File{{Name: "snap", Data: f, Sure: len(f)}}, Cap: 1000}, api.OK})
	again, e := Format(d, api.Config{})
	same(t, "Format again", []any{again, e}, []any{d, api.ErrThere})
	down := disk.Crash(d, nil)
	again, e = Format(down, conf())
	same(t, "Format while it is down", []any{again, e}, []any{down, api.ErrDown})
	again, e = Format(disk.New(9), api.Config{Kind: 1})
	same(t, "Format by a wrong config", []any{again, e}, []any{disk.New(9), api.ErrConfig})
	again, e = Format(disk.New(9), conf())
	same(t, "Format without room", []any{again, e}, []any{disk.New(9), api.ErrFull})
	left, _ := disk.Append(disk.New(1000), "snap.new", []byte("junk"))
	again, e = Format(left, conf())
	same(t, "Format over what was left", []any{again, e}, []any{d, api.OK})
	again, e = Format(disk.Arm(disk.New(1000), 3), conf())
	same(t, "Format as the power fails", []any{names(again), again.Down, e}, []any{[]string{"snap.new"}, true, api.ErrDown})
}

// P15.2
func TestLoad(t *testing.T) {
	d, s := formatted()
	same(t, "Load", []any{s, names(d)}, []any{api.Saved{Gen: 1, History: api.History{Image: state.Start(conf())}}, []string{"snap"}})
	_, x, e := Load(disk.New(5))
	same(t, "Load of nothing", []any{x, e}, []any{disk.New(5), api.ErrNone})
	_, x, e = Load(disk.Crash(d, nil))
	same(t, "Load while it is down", []any{x, e}, []any{disk.Crash(d, nil), api.ErrDown})
	good := record.PutState(codec.PutInt(nil, 1), state.Start(conf()))
	two := codec.PutInt(codec.PutInt(nil, 33), 17)
	for i, c := range []api.Disk{
		put(d, "snap", good, good), put(d, "snap"), put(d, "snap", append(slices.Clone(good), 0)), put(d, "snap", good[:len(good)-1]), put(d, "snap", record.PutState(codec.PutInt(nil, -1), state.Start(conf()))),
		put(d, "snap", record.PutState(codec.PutInt(nil, api.MaxCount+1), state.Start(conf()))), put(d, "snap", nil), put(d, "facts", two, two), put(d, "facts", two[:1]), put(d, "facts", append(slices.Clone(two), 0)), put(d, "facts", nil),
	} {
		if i == 1 {
			c, _ = disk.Append(c, "snap", []byte{1})
		}
		got, x, e := Load(c)
		same(t, fmt.Sprint("Load of a wrong disk ", i), []any{got, x, e}, []any{api.Saved{}, c, api.ErrForm})
	}
	s.Accepted, s.Current = 33, 17
	got, _, e := Load(put(d, "facts", two))
	same(t, "Load with facts", []any{got, e}, []any{s, api.OK})
	log, _ := journal.Add(d, 1, txns(16, 1, 2))
	torn, _ := disk.Append(log, "log.1", []byte("torn"))
	got, x, e = Load(torn)
	log.Files[0] = x.Files[0]
	same(t, "Load of a torn log", []any{got.History.Log, x, e}, []any{txns(16, 1, 2), log, api.OK})
	_, x, e = Load(disk.Arm(torn, 1))
	same(t, "Load as the power fails", []any{x.Down, e}, []any{true, api.ErrDown})
}

// P15.3
func TestSave(t *testing.T) {
	d, s := formatted()
	for _, gen := range []int{-1, api.MaxCount} {
		was := s
		was.Gen = gen
		x, got, e := Save(d, was, s)
		same(t, "Save of a wrong number", []any{x, got, e}, []any{d, api.Saved{}, api.ErrArg})
	}
	a := s
	a.History.Log, a.Gen = txns(16, 1, 2, 3), 77
	d, a, e := Save(d, s, a)
	same(t, "Save of transactions", []any{names(d), a.Gen, len(a.History.Log), e}, []any{[]string{"log.1", "snap"}, 1, 3, api.OK})
	b := a
	b.History.Log, b.Accepted = append(txns(16, 1), txns(17, 1)...), 17
	armed, b, e := Save(disk.Arm(d, 99), a, b)
	same(t, "Save of others, and facts", []any{names(armed), 99 - armed.Fuse, e}, []any{[]string{"facts", "log.1", "snap"}, 6, api.OK})
	d = disk.Arm(armed, 0)
	l, _, _ := journal.Read(d, 1)
	same(t, "the log", l, b.History.Log)
	c := b
	c.History.Image, c.Current = state.All(state.Start(conf()), txns(16, 1)), 17
	c.History.Log = txns(17, 1)
	d, c, e = Save(d, b, c)
	same(t, "Save of an image", []any{names(d), c.Gen, e}, []any{[]string{"facts", "log.2", "snap"}, 2, api.OK})
	got, x, e := Load(d)
	same(t, "back", []any{Same(got, c), disk.Same(x, d), e}, []any{true, true, api.OK})
	x, got, e = Save(disk.Arm(d, 1), c, c)
	same(t, "Save of the same", []any{x, got, e}, []any{disk.Arm(d, 1), c, api.OK})
	x, got, e = Save(disk.Arm(d, 1), c, s)
	same(t, "Save as the power fails", []any{x.Down, got, e}, []any{true, api.Saved{}, api.ErrDown})
}

// P15.4
func TestSame(t *testing.T) {
	s := func() api.Saved {
		return api.Saved{Accepted: 1, Current: 2, Gen: 3, History: api.History{Image: state.Start(conf()), Log: txns(1, 1, 2)}}
	}
	same(t, "Same", Same(s(), s()), true)
	for i, turn := range []func(*api.Saved){func(s *api.Saved) { s.Accepted = 9 }, func(s *api.Saved) { s.Current = 9 }, func(s *api.Saved) { s.Gen = 9 }, func(s *api.Saved) { s.History.Image.Next = 9 }, func(s *api.Saved) { s.History.Log[1].Xid = 9 }, func(s *api.Saved) { s.History.Log = nil }} {
		x := s()
		turn(&x)
		same(t, fmt.Sprint("Same of another ", i), []bool{Same(x, s()), Same(s(), x)}, []bool{false, false})
	}
}

// next: what may have become of s.
func next(r *rand.Rand, s api.Saved, epoch int) api.Saved {
	l := s.History.Log
	if r.Intn(3) == 0 && len(l) > 0 {
		n := r.Intn(len(l))
		s.History = api.History{Image: state.All(s.History.Image, l[:n+1]), Log: slices.Clone(l[n+1:])}
	}
	n := r.Intn(len(s.History.Log) + 1)
	s.History.Log = append(slices.Clone(s.History.Log[:n]), txns(epoch, 1, 2, 3)[:r.Intn(4)]...)
	if r.Intn(2) == 0 {
		s.Accepted = epoch
	}
	if r.Intn(3) == 0 {
		s.Current = epoch
	}
	return s
}

// P15.5, P15.6
func TestCrash(t *testing.T) {
	r := rand.New(rand.NewSource(1))
	for range 300 {
		d, s := formatted()
		for epoch := 1; epoch < 12; epoch++ {
			now := next(r, s, epoch)
			fuse := r.Intn(12)
			x, kept, e := Save(disk.Arm(d, fuse), s, now)
			if e == api.OK {
				got, y, f := Load(disk.Arm(x, 0))
				if f != api.OK || !Same(got, kept) || !disk.Same(y, disk.Arm(x, 0)) {
					t.Fatalf("saved %v, loaded %v", kept, got)
				}
				d, s = y, kept
				continue
			}
			got, y, f := Load(disk.Start(disk.Crash(x, []int{r.Intn(200), r.Intn(200), r.Intn(200), r.Intn(200)})))
			if f != api.OK || !allowed(s, now, got) {
				t.Fatalf("the power fails from %v to %v: %v, %d", s, now, got, f)
			}
			d, s = y, got
		}
	}
}

// allowed: whether got may be found, if the power failed as now was laid over was.
func allowed(was, now, got api.Saved) bool {
	got.Gen, now.Gen, was.Gen = 0, 0, 0
	if Same(got, was) || Same(got, now) {
		return true
	}
	half := now
	half.Accepted, half.Current = was.Accepted, was.Current
	if Same(got, half) {
		return true
	}
	if !state.Same(got.History.Image, was.History.Image) || got.Accepted != was.Accepted || got.Current != was.Current {
		return false
	}
	n := 0
	for n < len(was.History.Log) && n < len(now.History.Log) && state.SameTxn(was.History.Log[n], now.History.Log[n]) {
		n++
	}
	return len(got.History.Log) >= n && len(got.History.Log) <= len(now.History.Log) &&
		slices.EqualFunc(got.History.Log, now.History.Log[:len(got.History.Log)], state.SameTxn)
}
