package script

import (
	"fmt"
	"math/rand"
	"strings"
	"testing"

	"witan/api"
	"witan/config"
)

func same(t *testing.T, what string, got, want any) {
	t.Helper()
	if a, b := fmt.Sprint(got), fmt.Sprint(want); a != b {
		t.Errorf("%s: %s, want %s", what, a, b)
	}
}

const world1 = "world 1 3000 0.0 1 0p1g0\n"

func ops(a int, l ...api.Op) api.Act {
	return api.Act{Kind: api.ActAsk, A: a, Ask: api.Request{Kind: api.ReqOps, Ops: l}}
}

// lines: each act's line, and the act.
var lines = []struct {
	line string
	act  api.Act
}{
	{"come 3", api.Act{Kind: api.ActCome, N: 3}}, {"say 0", api.Act{Kind: api.ActSay}}, {"tick 2", api.Act{Kind: api.ActTick, A: 2}}, {"reset 1 2", api.Act{Kind: api.ActReset, A: 1, B: 2}}, {"cut 1 2", api.Act{Kind: api.ActCut, A: 1, B: 2}},
	{"heal 1 2", api.Act{Kind: api.ActHeal, A: 1, B: 2}}, {"start 1", api.Act{Kind: api.ActStart, A: 1}}, {"arm 1 9", api.Act{Kind: api.ActArm, A: 1, N: 9}}, {"room 1 1099511627776", api.Act{Kind: api.ActRoom, A: 1, N: api.MaxCount}},
	{"connect 3 2", api.Act{Kind: api.ActConnect, A: 3, B: 2}}, {"beat 1", api.Act{Kind: api.ActBeat, A: 1}}, {"leave 1", api.Act{Kind: api.ActLeave, A: 1}}, {"calm 40", api.Act{Kind: api.ActCalm, N: 40}},
	{"crash 1", api.Act{Kind: api.ActCrash, A: 1}}, {"crash 1 5 0 7", api.Act{Kind: api.ActCrash, A: 1, Keep: []int{5, 0, 7}}},
	{"node 1 /a", api.Act{Kind: api.ActRead, A: 1, N: api.ReadNode, Path: "/a"}}, {"kids 1 watch watch", api.Act{Kind: api.ActRead, A: 1, N: api.ReadKids, Path: "watch", Watch: true}}, {"close 1", api.Act{Kind: api.ActAsk, A: 1, Ask: api.Request{Kind: api.ReqClose}}},
	{"ask 1 c:/a:x co:/a: cs:/b:y cos:/c:z", ops(1, api.Op{Kind: 1, Path: "/a", Data: "x"}, api.Op{Kind: 1, Path: "/a", Owned: true}, api.Op{Kind: 1, Path: "/b", Data: "y", Seq: true}, api.Op{Kind: 1, Path: "/c", Data: "z", Owned: true, Seq: true})},
	{"ask 1 d:/a:* v:~:0 s:/a:12: s:/a:*:!", ops(1, api.Op{Kind: 2, Path: "/a", Version: -1}, api.Op{Kind: 4, Path: "~"}, api.Op{Kind: 3, Path: "/a", Version: 12}, api.Op{Kind: 3, Path: "/a", Version: -1, Data: "!"})},
	{"config 1 0", api.Act{Kind: api.ActAsk, A: 1, N: 1, Ask: api.Request{Kind: api.ReqConfig}}},
	{"config 1 3 15p100g7 0o0g0 15p1g0 -0 -15 -0", api.Act{Kind: api.ActAsk, A: 1, N: 1, Ask: api.Request{Kind: api.ReqConfig, Delta: api.Delta{Kind: 3, Put: []api.Member{{Id: 15, Role: 1, Weight: 100, Group: 7}, {Id: 0, Role: 2}, {Id: 15, Role: 1, Weight: 1}}, Drop: []int{0, 15, 0}}}}},
}

// P29.1
func TestParse(t *testing.T) {
	text := "\n# a remark\n" + "world 16 0 3.7 2 0p1g0 2o1g0\n"
	want := api.Script{N: 16}
	want.Config, _ = config.Parse("3.7 2 0p1g0 2o1g0")
	for _, l := range lines {
		text += l.line + "\n\n#" + l.line + "\n"
		want.Acts = append(want.Acts, l.act)
	}
	x, n, e := Parse(text)
	same(t, "Parse", []any{x, n, e}, []any{want, 0, api.OK})
	x, n, e = Parse(strings.TrimSpace(world1))
	same(t, "without a line feed", []any{len(x.Acts), n, e}, []any{0, 0, api.OK})
	for s, want := range map[string]api.Errno{"": api.ErrNone, "\n\n#x\n": api.ErrNone, strings.Repeat("\n", api.MaxScript): api.ErrNone, strings.Repeat("\n", api.MaxScript+1): api.ErrLong, strings.Repeat("x", api.MaxScript+1): api.ErrLong} {
		x, n, e := Parse(s)
		same(t, "Parse of nothing", []any{x, n, e}, []any{api.Script{}, 0, want})
	}
}

func TestWrongLines(t *testing.T) {
	long := strings.Repeat("x", 65)
	for _, line := range []string{"come", "come x", "come 1 2", "come  1", " come 1", "come 1 ", "come\t1", "come -1", "come 01", "come 1099511627777", "come 99999999999999", "come +1", "come 1.0", "Come 1", "comes 1", " ", "x", "reset 1", "reset 1 2 3", "crash", "crash 1 x", "crash 1 ", "start 1 2", "tick", "arm 1",
		"node 1", "node 1 ", "node 1 a:b", "node 1 /a watched", "node 1 /a watch watch", "node x /a", "kids 1 " + long, "node 1 \xc3\xa9", "node 1 /a\r", "close", "close 1 2", "ask 1", "ask 1 ", "ask c:/a:x", "ask 1 c:/a", "ask 1 c::x", "ask 1 c:/a:x:y", "ask 1 cso:/a:x", "ask 1 C:/a:x", "ask 1 d:/a", "ask 1 d:/a:", "ask 1 d:/a:-1", "ask 1 d:/a:**", "ask 1 v:/a:1:2", "ask 1 s:/a:1", "ask 1 s:/a:x:y",
		"ask 1 c:/a:" + strings.Repeat("x", 129), "ask 1 c:" + long + ":x", "ask 1 c:/a:x d", "config 1", "config 1 4", "config 1 x", "config 1 0 16p1g0", "config 1 0 0p101g0", "config 1 0 0p1g8", "config 1 0 0x1g0", "config 1 0 0p1", "config 1 0 0p1g", "config 1 0 p1g0", "config 1 0 00p1g0", "config 1 0 0pg0", "config 1 0 0p1g0g0", "config 1 0 -16", "config 1 0 -", "config 1 0 --1", "config 1 0 -01", "config 1 0 -1 0p1g0", "config 1 0 1", "world 1 3000 0.0 1 0p1g0"} {
		x, n, e := Parse("#\n" + world1 + "tick 0\n" + line + "\nwrong too\n")
		same(t, "the line "+line, []any{x, n, e}, []any{api.Script{}, 4, api.ErrForm})
	}
	for _, line := range []string{"tick 0", "world", "world 1 3000", "world 1 3000 ", "world 1 0.0 1 0p1g0", "world x 3000 0.0 1 0p1g0", "world 1 x 0.0 1 0p1g0", "world 01 3000 0.0 1 0p1g0", "world  1 3000 0.0 1 0p1g0", "world 1 3000 0.0 1", "world 1 3000 0.0 4 0p1g0", "world 1 3000 0.0 1 0o1g0", "world 1 3000 0.0 1 0p1g0 ", "World 1 3000 0.0 1 0p1g0"} {
		_, n, e := Parse("\n" + line + "\n")
		same(t, "the first line "+line, []any{n, e}, []any{2, api.ErrForm})
	}
}

// P29.2
func TestPrint(t *testing.T) {
	x, _, _ := Parse(world1)
	want := world1
	for _, l := range lines {
		x.Acts = append(x.Acts, l.act)
		want += l.line + "\n"
	}
	same(t, "Print", Print(x), want)
	for i, turn := range []func(*api.Script){func(x *api.Script) { x.N = -1 }, func(x *api.Script) { x.Size = -1 }, func(x *api.Script) { x.N = api.MaxCount + 1 }, func(x *api.Script) { x.Size = api.MaxCount + 1 }, func(x *api.Script) { x.Config.Kind = 0 }, func(x *api.Script) { x.Acts = make([]api.Act, 1) }} {
		y := x
		turn(&y)
		same(t, fmt.Sprint("Print of a wrong one ", i), Print(y), "")
	}
	for i, a := range []api.Act{
		{Kind: 17}, {Kind: api.ActTick, A: -1}, {Kind: api.ActTick, B: 1}, {Kind: api.ActTick, N: 1}, {Kind: api.ActTick, Path: "x"}, {Kind: api.ActTick, Watch: true}, {Kind: api.ActTick, Keep: []int{1}}, {Kind: api.ActStart, Keep: []int{1}}, {Kind: api.ActTick, Ask: api.Request{Xid: 1}}, {Kind: api.ActCrash, Keep: []int{-1}}, {Kind: api.ActCome, N: api.MaxCount + 1},
		{Kind: api.ActRead, N: 3, Path: "/a"}, {Kind: api.ActRead, N: 1}, {Kind: api.ActRead, N: 1, Path: "a b"}, {Kind: api.ActRead, N: 1, Path: "/a watch"}, {Kind: api.ActRead, N: 1, Path: "/a\nbeat 1"}, {Kind: api.ActRead, N: 1, Path: "a:b"}, {Kind: api.ActRead, N: 1, Path: strings.Repeat("x", 65)},
		{Kind: api.ActAsk}, {Kind: api.ActAsk, Ask: api.Request{Kind: api.ReqOpen}}, {Kind: api.ActAsk, Ask: api.Request{Kind: api.ReqOps}}, {Kind: api.ActAsk, Ask: api.Request{Kind: api.ReqConfig}}, {Kind: api.ActAsk, N: 1, Ask: api.Request{Kind: api.ReqClose}}, {Kind: api.ActAsk, Ask: api.Request{Kind: api.ReqClose, Session: 1}}, {Kind: api.ActAsk, Ask: api.Request{Kind: api.ReqClose, Want: api.Zxid{N: 1}}},
		ops(1, api.Op{Path: "/a"}), ops(1, api.Op{Kind: 1, Path: "/a", Version: 1}), ops(1, api.Op{Kind: 1, Path: "/a", Data: ":"}), ops(1, api.Op{Kind: 1, Path: "/a", Data: "a b"}), ops(1, api.Op{Kind: 1, Path: "/a", Data: strings.Repeat("x", 129)}), ops(1, api.Op{Kind: 2, Path: "/a", Version: -2}), ops(1, api.Op{Kind: 2, Path: "/a", Data: "x"}), ops(1, api.Op{Kind: 4, Path: "/a", Seq: true}),
		{Kind: api.ActAsk, N: 1, Ask: api.Request{Kind: api.ReqConfig, Delta: api.Delta{Kind: 4}}}, {Kind: api.ActAsk, N: 1, Ask: api.Request{Kind: api.ReqConfig, Delta: api.Delta{Put: []api.Member{{Id: 1}}}}}, {Kind: api.ActAsk, N: 1, Ask: api.Request{Kind: api.ReqConfig, Delta: api.Delta{Put: []api.Member{{Id: 16, Role: 1}}}}}, {Kind: api.ActAsk, N: 1, Ask: api.Request{Kind: api.ReqConfig, Delta: api.Delta{Drop: []int{16}}}},
	} {
		y := x
		y.Acts = []api.Act{a}
		same(t, fmt.Sprint("Print of an act without a line ", i), Print(y), "")
	}
	x.Acts = nil
	for len(world1)+7*len(x.Acts) < api.MaxScript-7 {
		x.Acts = append(x.Acts, api.Act{Kind: api.ActTick})
	}
	s := Print(x)
	rest := api.MaxScript - len(s)
	x.Acts = append(x.Acts, api.Act{Kind: api.ActTick, A: []int{0, 0, 0, 0, 0, 0, 0, 0, 10, 100}[rest]})
	same(t, "too many bytes by far", []any{rest <= 7, rest > 0}, []any{true, true})
	if long := Print(x); len(long) > api.MaxScript || rest < 7 && long != "" {
		t.Errorf("%d bytes are printed", len(long))
	}
}

func TestJustFull(t *testing.T) {
	x, _, _ := Parse(world1)
	for range (api.MaxScript - len(world1)) / 7 {
		x.Acts = append(x.Acts, api.Act{Kind: api.ActTick})
	}
	left := (api.MaxScript - len(world1)) % 7
	for a := 1; left > 0; left-- {
		a *= 10
		x.Acts[0].A = a
	}
	same(t, "just MaxScript bytes", len(Print(x)), api.MaxScript)
	x.Acts[1].A = 10
	same(t, "one more", Print(x), "")
}

// P29.3
func TestReport(t *testing.T) {
	same(t, "the example", Report(strings.TrimSpace(world1)), "jump 0 0.0\nserver 0 2 3 16 0.0 1 0 0.0\njudge 0\n")
	same(t, "wrong", []string{Report(""), Report("\nx\n"), Report(strings.Repeat("x", 20001))}, []string{"wrong 6 0\n", "wrong 3 2\n", "wrong 5 0\n"})
	same(t, "no world", []string{Report("world 0 3000 0.0 1 0p1g0"), Report("world 1 3000 0.0 1 1p1g0"), Report("world 1 3 0.0 1 0p1g0")}, []string{"no world 1\n", "no world 16\n", "no world 8\n"})
	got := Report(`world 2 30000 0.0 1 0p1g0
connect 0 0
calm 1
ask 0 c:/a:x c:/b:
node 0 /c watch
calm 1
kids 0 / watch
calm 1
node 0 /a
calm 1
ask 0 c:/c:y
calm 1
ask 0 c:/a:z
leave 0
config 1 0 1o1g0
connect 1 0
calm 1
config 1 0 1o1g0
calm 1
crash 1
`)
	want := `jump 0 0.0
jump 1 0.0
made 0 16.1
done 0 16.1 1 1048577 0
call 0 1048578
made 0 16.2
done 0 16.2 1 1048578 0
told 0 1048578 0 16.2 /a
call 0 1048579
told 0 1048579 0 16.2 a,b
call 0 1048580
told 0 1048580 0 16.2 x 0
call 0 1048581
made 0 16.3
done 0 16.3 1 1048581 0
seen 0 4 / 16.3
told 0 1048581 0 16.3 /c
call 0 1048582
lost 0 1048582
made 0 16.4
done 0 16.4 2 2097153 0
call 1 2097154
made 0 16.5
done 0 16.5 2 2097154 0
told 1 2097154 0 16.5 
server 0 2 3 16 16.5 4 2 16.5
server 1 down
judge 0
`
	// Server 1 looks on, and does each of them at some time, too.
	same(t, "Report", without(got, "done 1 "), want)
	same(t, "done by the other one", strings.Count(got, "done 1 "), 5)
}

// without: the lines of s that do not begin so.
func without(s, begin string) string {
	out := ""
	for _, line := range strings.SplitAfter(s, "\n") {
		if !strings.HasPrefix(line, begin) {
			out += line
		}
	}
	return out
}

func some(r *rand.Rand) api.Script {
	x, _, _ := Parse("world 3 30000 0.0 1 0p1g0 1p1g0 2p1g0")
	x.N, x.Size = 3+r.Intn(2), 20000+r.Intn(3)*20000
	for range r.Intn(60) {
		x.Acts = append(x.Acts, lines[r.Intn(len(lines))].act)
	}
	return x
}

// P29.4, P29.5
func TestBack(t *testing.T) {
	r := rand.New(rand.NewSource(1))
	for range 200 {
		x := some(r)
		s := Print(x)
		back, _, e := Parse(s)
		same(t, "Parse of Print", []any{back, e}, []any{x, api.OK})
		more := ""
		for _, line := range strings.SplitAfter(s, "\n") {
			more += []string{"", "\n", "# world\n", "#\n\n"}[r.Intn(4)] + line
		}
		back, _, e = Parse(more)
		same(t, "with lines that are passed over", []any{back, e}, []any{x, api.OK})
		same(t, "Print of what was parsed", Print(back), s)
	}
}

// P29.6
func TestBeginnings(t *testing.T) {
	r := rand.New(rand.NewSource(2))
	for range 20 {
		l := []string{"world 3 30000 0.0 1 0p1g0 1p1g0 2p1g0", "calm 3", "connect 1 2", "connect 2 0", "calm 1"}
		for range 30 {
			l = append(l, []string{"ask 1 c:/a:x", "ask 1 d:/a:*", "calm 1", "node 2 /a watch", "tick 0", "come 1", "say 0", "crash 0", "start 0", "config 1 1 2o1g0", "config 2 1 2p1g0"}[r.Intn(11)])
		}
		last := ""
		for n := 1; n <= len(l); n += 6 {
			facts := Report(strings.Join(l[:n], "\n"))
			facts = facts[:strings.Index(facts, "server 0")]
			if !strings.HasPrefix(facts, last) {
				t.Fatalf("with more lines the facts\n%s\nbecome\n%s", last, facts)
			}
			last = facts
		}
	}
}
