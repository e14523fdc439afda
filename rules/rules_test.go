// Package rules tests what DOC.md asks of every call: it ends and does not panic (R1), it changes and shares nothing (R3), and it answers the same again (R4).
package rules

import (
	"fmt"
	"math"
	"math/rand"
	"reflect"
	"runtime"
	"strings"
	"testing"

	"witan/ack"
	"witan/api"
	"witan/client"
	"witan/codec"
	"witan/config"
	"witan/delta"
	"witan/disk"
	"witan/elect"
	"witan/history"
	"witan/journal"
	"witan/judge"
	"witan/keep"
	"witan/lead"
	"witan/learn"
	"witan/link"
	"witan/own"
	"witan/path"
	"witan/peer"
	"witan/prep"
	"witan/quorum"
	"witan/reconf"
	"witan/record"
	"witan/script"
	"witan/server"
	"witan/session"
	"witan/state"
	"witan/vote"
	"witan/watch"
	"witan/world"
	"witan/znode"
	"witan/zxid"
)

// calls: every call that the chapters list, as far as it is built.
func calls() []any {
	return []any{
		codec.PutInt, codec.PutText, codec.Int, codec.Text, codec.Crc, codec.Seal, codec.Open, codec.Frames,
		zxid.Cmp, zxid.Next, zxid.Last, zxid.Owner, zxid.Fresh, zxid.Text, zxid.Parse,
		path.Check, path.Parent, path.Name, path.Depth, path.Join, path.Below, path.Numbered,
		config.Check, config.Sort, config.Find, config.Voters, config.Watchers, config.Text, config.Parse, config.Same,
		quorum.Is, quorum.All, quorum.Least, quorum.Blocks, quorum.Whole,
		delta.Apply, delta.Diff, delta.Same,
		znode.Root, znode.Check, znode.Find, znode.Children, znode.Put, znode.Gone, znode.Same,
		state.Start, state.Apply, state.All, state.Get, state.Kids, state.Same, state.SameTxn,
		prep.Make, prep.Right,
		watch.Add, watch.Fire, watch.Drop, watch.Told,
		session.Renew, session.Touch, session.Tick,
		record.PutZxid, record.PutConfig, record.PutTxn, record.PutState, record.PutRequest, record.PutMsg,
		record.Config, record.Txn, record.State, record.Request, record.Msg,
		disk.New, disk.Used, disk.Read, disk.Append, disk.Sync, disk.Cut, disk.Rename, disk.Remove, disk.Arm, disk.Crash, disk.Start, disk.Same,
		journal.Name, journal.Add, journal.Read, journal.Keep, journal.Fresh,
		keep.Format, keep.Load, keep.Save, keep.Same,
		history.Base, history.Last, history.Marks, history.Check, history.Own, history.Upto, history.Grow, history.StateAt, history.Squash, history.Needs, history.Make, history.Do, history.Same, history.SamePlan,
		vote.Better, vote.Lay, vote.Backs, vote.Won, vote.Best,
		elect.Begin, elect.Hear, elect.Winner,
		ack.Set, ack.Commit, ack.Committed, ack.Learners,
		reconf.Ask, reconf.Heir, reconf.Role, reconf.Others, reconf.Voting,
		lead.Own, lead.Begin, lead.Hear, lead.Place, lead.Propose, lead.Tick, lead.Lost,
		learn.Begin, learn.Hear, learn.Tick, learn.Lost,
		peer.Start, peer.Step,
		server.New, server.Serves, server.Step, server.Same,
		link.Two, link.Has, link.Set, link.Send, link.Firsts, link.Take, link.Reset, link.Alone,
		client.New, client.Connect, client.Ask, client.Read, client.Beat, client.Hear, client.Lost, client.Move,
		judge.Log, judge.Chain, judge.Primary, judge.Linear, judge.Judge,
		world.New, world.Step, world.Run,
		script.Parse, script.Print, script.Report,
	}
}

// copies: the calls that lay a thing anew, and change nothing of it.
func copies() []any {
	return []any{
		own.Config, own.State, own.Txn, own.Txns, own.History, own.Saved, own.Request, own.Plan, own.Msg, own.Learner, own.Disk, own.Word, own.Peer, own.Server, own.Client, own.Fact, own.World, history.Own,
	}
}

var texts = []string{"", "/", "/a", "/a/b", "/b", "/q-", "//", "a", "1.2", "0.0 1 0p1g0", "3.7 1 0p1g0 2o1g0", "log.1", "snap", "facts", "facts.new",
	"/a/", "\x00", "\xff\xfe", "world 1 3000 0.0 1 0p1g0\ntick 0\n", "03.7", strings.Repeat("/abc", 16), strings.Repeat("/abc", 17)}

var ends = []int{math.MinInt, math.MaxInt, -1, 16, 17, 1 << 40, 1<<40 + 1, -1 << 40, 1 << 31, 60, 1000}

type maker struct {
	*rand.Rand
	wild int // one number of so many is far off
}

func (m maker) number() int {
	if m.Intn(m.wild) == 0 {
		return ends[m.Intn(len(ends))]
	}
	return m.Intn(5)
}

// likely: a thing of that type as it may be, so that calls do not end at the first look; half of the times.
func (m maker) likely(t reflect.Type) (any, bool) {
	if m.Intn(2) == 0 {
		return nil, false
	}
	switch t {
	case reflect.TypeFor[api.Config]():
		return m.config(), true
	case reflect.TypeFor[api.State]():
		return m.state(), true
	case reflect.TypeFor[api.History]():
		return m.history(), true
	}
	return nil, false
}

func (m maker) config() api.Config {
	c := api.Config{At: m.place(), Kind: 1 + m.Intn(3)}
	for id := range 5 {
		if m.Intn(3) > 0 {
			c.Members = append(c.Members, api.Member{Id: id, Role: 1 + m.Intn(5)/4, Weight: m.Intn(4), Group: m.Intn(3)})
		}
	}
	return c
}

func (m maker) place() api.Zxid {
	return api.Zxid{Epoch: m.Intn(3), N: m.Intn(3)}
}

func (m maker) state() api.State {
	s := api.State{Nodes: []api.Znode{{Path: "/"}}, Next: 5, Config: m.config(), At: m.place()}
	for _, p := range []string{"/a", "/a/b", "/b", "/c"} {
		if m.Intn(3) > 0 && (p != "/a/b" || len(s.Nodes) > 1 && s.Nodes[1].Path == "/a") {
			s.Nodes = append(s.Nodes, api.Znode{Path: p, Version: m.Intn(3), Kids: m.Intn(3)})
		}
	}
	for n := range 4 {
		if m.Intn(2) == 0 {
			s.Sessions = append(s.Sessions, n+1)
		}
	}
	return s
}

func (m maker) history() api.History {
	h := api.History{Image: m.state()}
	for i := range m.Intn(5) {
		t := m.value(reflect.TypeFor[api.Txn](), 3).Interface().(api.Txn)
		t.At = api.Zxid{Epoch: 3 + i, N: m.Intn(3)}
		h.Log = append(h.Log, t)
	}
	return h
}

func (m maker) value(t reflect.Type, deep int) reflect.Value {
	v := reflect.New(t).Elem()
	if x, ok := m.likely(t); ok {
		v.Set(reflect.ValueOf(x))
		return v
	}
	switch t.Kind() {
	case reflect.Int:
		v.SetInt(int64(m.number()))
	case reflect.Uint8, reflect.Uint32:
		v.SetUint(uint64(m.Intn(256)))
	case reflect.Bool:
		v.SetBool(m.Intn(2) == 0)
	case reflect.String:
		v.SetString(texts[m.Intn(len(texts))])
	case reflect.Struct:
		for i := range t.NumField() {
			v.Field(i).Set(m.value(t.Field(i).Type, deep+1))
		}
	case reflect.Slice:
		n := m.Intn(max(1, 5-deep/2))
		if t.Elem().Kind() == reflect.Uint8 {
			n = m.Intn(30)
		}
		l := reflect.MakeSlice(t, n, n+m.Intn(3))
		for i := range l.Cap() {
			l.Slice(0, l.Cap()).Index(i).Set(m.value(t.Elem(), deep+1))
		}
		v.Set(l)
	default:
		panic("no value of " + t.String())
	}
	return v
}

// shown: a value as text, with the room behind the ends of its lists if whole is set.
func shown(b *strings.Builder, v reflect.Value, whole bool) {
	switch v.Kind() {
	case reflect.Struct:
		for i := range v.NumField() {
			shown(b, v.Field(i), whole)
		}
		b.WriteString(";")
	case reflect.Slice:
		n := v.Len()
		if whole {
			n = v.Cap()
		}
		fmt.Fprint(b, v.Len(), "[")
		for i := range n {
			shown(b, v.Slice(0, n).Index(i), whole)
		}
		b.WriteString("]")
	default:
		fmt.Fprintf(b, "%v,", v.Interface())
	}
}

func text(l []reflect.Value, whole bool) string {
	var b strings.Builder
	for _, v := range l {
		shown(&b, v, whole)
	}
	return b.String()
}

type span struct{ from, to uintptr }

func lists(out []span, v reflect.Value) []span {
	switch v.Kind() {
	case reflect.Struct:
		for i := range v.NumField() {
			out = lists(out, v.Field(i))
		}
	case reflect.Slice:
		if v.Cap() > 0 {
			out = append(out, span{v.Pointer(), v.Pointer() + uintptr(v.Cap())*v.Type().Elem().Size()})
		}
		for i := range v.Len() {
			out = lists(out, v.Index(i))
		}
	}
	return out
}

func spans(l []reflect.Value) []span {
	var out []span
	for _, v := range l {
		out = lists(out, v)
	}
	return out
}

func meet(a, b span) bool { return a.from < b.to && b.from < a.to }

func shared(args, out []reflect.Value) bool {
	in, got := spans(args), spans(out)
	for i, a := range got {
		for _, b := range in {
			if meet(a, b) {
				return true
			}
		}
		for _, b := range got[:i] {
			if meet(a, b) {
				return true
			}
		}
	}
	return false
}

func try(t *testing.T, f reflect.Value, name string, args []reflect.Value) (out []reflect.Value) {
	defer func() {
		if p := recover(); p != nil {
			b := make([]byte, 4000)
			t.Fatalf("%s panics: %v of %+v\n%s", name, p, args, b[:runtime.Stack(b, false)])
		}
	}()
	return f.Call(args)
}

func TestRules(t *testing.T) {
	for _, c := range calls() {
		f := reflect.ValueOf(c)
		name := runtime.FuncForPC(f.Pointer()).Name()
		t.Run(name, func(t *testing.T) {
			t.Parallel()
			m := maker{rand.New(rand.NewSource(int64(len(name)))), 4}
			for i := range 1000 {
				m.wild = 2 + i%60
				var args []reflect.Value
				for i := range f.Type().NumIn() {
					args = append(args, m.value(f.Type().In(i), 0))
				}
				was := text(args, true)
				out := try(t, f, name, args)
				again := try(t, f, name, args)
				if text(args, true) != was {
					t.Fatalf("%s changes what it is handed: %+v", name, args)
				}
				if shared(args, out) {
					t.Fatalf("%s shares memory: of %+v it answers %+v", name, args, out)
				}
				if text(out, false) != text(again, false) {
					t.Fatalf("%s answers another thing again: of %+v", name, args)
				}
			}
		})
	}
}

func TestCopies(t *testing.T) {
	for _, c := range copies() {
		f := reflect.ValueOf(c)
		m := maker{rand.New(rand.NewSource(1)), 9}
		for range 200 {
			args := []reflect.Value{m.value(f.Type().In(0), 0)}
			out := f.Call(args)
			if shared(args, out) || text(args, false) != text(out, false) {
				t.Fatalf("%s answers %+v of %+v", runtime.FuncForPC(f.Pointer()).Name(), out, args)
			}
		}
	}
}

// TestWorlds: the rules along a world in which much happens, so that what lies deep is reached.
func TestWorlds(t *testing.T) {
	lines := []string{"ask 0 c:/a:x", "ask 0 co:/b:x", "ask 1 cs:/q:x", "ask 0 s:/a:*:y d:/b:*", "node 1 /a watch", "kids 1 / watch", "config 0 0 3p1g0", "config 1 0 -2", "close 1", "connect 0 1", "connect 1 0",
		"connect 2 3", "crash 2 9 9", "start 2", "crash 0", "start 0", "room 1 2000", "room 1 90000", "start 1", "arm 1 3", "cut 0 1", "heal 0 1", "reset 1 2", "calm 1", "calm 2", "come 1", "come 0", "say 0", "tick 0", "beat 1", "leave 0"}
	r := rand.New(rand.NewSource(1))
	lot := "world 4 90000 0.0 1 0p1g0 1p1g0 2p1g0 3o1g0\ncalm 3\nconnect 0 1\nconnect 1 3\ncalm 1\n"
	for range 500 {
		lot += lines[r.Intn(len(lines))] + "\n"
		if r.Intn(3) == 0 {
			lot += "calm 1\n"
		}
	}
	x, line, e := script.Parse(lot)
	if e != api.OK {
		t.Fatalf("the line %d is wrong: %d", line, e)
	}
	w, _ := world.New(x.Config, x.N, x.Size)
	for id := range x.N {
		w = world.Step(w, api.Act{Kind: api.ActStart, A: id})
	}
	for i, a := range x.Acts {
		args := []reflect.Value{reflect.ValueOf(w), reflect.ValueOf(a)}
		was := whole(args)
		now := world.Step(w, a)
		if out := []reflect.Value{reflect.ValueOf(now)}; whole(args) != was || shared(args, out) {
			t.Fatalf("the %d-th act, %+v, changes or shares what was handed in", i, a)
		}
		w = now
	}
	all, _ := world.Run(x.Config, x.N, x.Size, x.Acts)
	if text([]reflect.Value{reflect.ValueOf(all)}, false) != text([]reflect.Value{reflect.ValueOf(w)}, false) {
		t.Errorf("act by act comes another world")
	}
	if len(w.Facts) < 100 {
		t.Errorf("too little happened: %d facts", len(w.Facts))
	}
}

func whole(l []reflect.Value) string { return text(l, true) }
