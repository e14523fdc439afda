package lead

import (
	"fmt"
	"math"
	"math/rand"
	"testing"

	"witan/ack"
	"witan/api"
	"witan/config"
	"witan/history"
	"witan/state"
	"witan/zxid"
)

func same(t *testing.T, what string, got, want any) {
	t.Helper()
	if a, b := fmt.Sprint(got), fmt.Sprint(want); a != b {
		t.Errorf("%s: %s, want %s", what, a, b)
	}
}

func z(epoch, n int) api.Zxid { return api.Zxid{Epoch: epoch, N: n} }

func parse(s string) api.Config {
	c, e := config.Parse("0.0 1" + s)
	if e != api.OK {
		panic(s)
	}
	return c
}

// three: participants 0, 1, 2, observer 3.
const three = " 0p1g0 1p1g0 2p1g0 3o1g0"

func of(conf string, l ...api.Zxid) api.Peer {
	h := api.History{Image: state.Start(parse(conf))}
	for _, at := range l {
		h.Log = append(h.Log, api.Txn{At: at})
	}
	return api.Peer{History: h, Mode: api.Looking, Leader: -1, Wait: 5, Epoch: 9, Learners: []api.Learner{{Id: 9}}, Seek: api.Seek{Round: 3}}
}

// told: messages in short: kind, to, epoch, at, and of which transactions.
func told(l []api.Msg) []string {
	var out []string
	for _, m := range l {
		s := fmt.Sprint(m.Kind, ">", m.To, " ", m.Epoch)
		switch m.Kind {
		case api.MsgSync:
			s += fmt.Sprint(" plan ", m.Plan.Kind, places(m.Plan.Log))
		case api.MsgPropose, api.MsgInform:
			s += fmt.Sprint(" txn ", m.Txn.At)
		case api.MsgReady, api.MsgCommit:
			s += fmt.Sprint(" at ", m.At)
		}
		out = append(out, s)
	}
	return out
}

func places(l []api.Txn) []api.Zxid {
	out := []api.Zxid{}
	for _, t := range l {
		out = append(out, t.At)
	}
	return out
}

type call struct {
	p  api.Peer
	l  []string
	ok bool
}

func heard(p api.Peer, m api.Msg) call {
	p, l, ok := Hear(p, m)
	return call{p, told(l), ok}
}

func began(p api.Peer) api.Peer {
	p, _, _ = Begin(p)
	return p
}

func info(from, epoch int) api.Msg { return api.Msg{From: from, Kind: api.MsgInfo, Epoch: epoch} }

func ackEpoch(from, epoch, current int, at api.Zxid, marks ...api.Zxid) api.Msg {
	return api.Msg{From: from, Kind: api.MsgAckEpoch, Epoch: epoch, Current: current, At: at, Marks: marks}
}

func ackSync(from, epoch int, at api.Zxid) api.Msg {
	return api.Msg{From: from, Kind: api.MsgAckSync, Epoch: epoch, At: at}
}

func acked(from, epoch int, at api.Zxid) api.Msg {
	return api.Msg{From: from, Kind: api.MsgAck, Epoch: epoch, At: at}
}

func hears(p api.Peer, l ...api.Msg) api.Peer {
	for _, m := range l {
		p, _, _ = Hear(p, m)
	}
	return p
}

// full: a leader in Phase 3, epoch 16, of log 1.1, with learner 1 in Phase 4.
func full() api.Peer {
	return hears(began(of(three, z(1, 1))), info(1, 3), ackEpoch(1, 16, 0, z(0, 0), z(0, 0)), ackSync(1, 16, z(1, 1)))
}

// P21.1
func TestOwn(t *testing.T) {
	p := of(three, z(1, 1))
	p.Learners = []api.Learner{{Id: 5, Marks: []api.Zxid{z(1, 1)}}, {Id: 2}, {Id: 5, Quiet: 1}}
	o := Own(p)
	same(t, "the book laid anew", o.Learners, []api.Learner{{Id: 2}, {Id: 5, Quiet: 1}})
	p.Learners = nil
	o = Own(p)
	same(t, "Own", o, p)
	o.History.Image.Config.Members[0].Id = 7
	same(t, "its own memory", p.History.Image.Config.Members[0].Id, 0)
}

// P21.2, P21.3
func TestBegin(t *testing.T) {
	p, l, ok := Begin(of(three))
	same(t, "Begin", []any{p.Mode, p.Leader, p.Phase, p.Wait, p.Epoch, len(p.Learners), p.Seek.Round, l, ok}, []any{api.Leading, 0, 1, 0, 0, 0, 3, []api.Msg{}, true})
	alone := of(" 0p1g0", z(1, 1))
	alone.Accepted, alone.Current = 20, 1
	p, l, ok = Begin(alone)
	same(t, "alone", []any{p.Phase, p.Epoch, p.Accepted, p.Current, p.Done, l, ok}, []any{3, 32, 32, 32, z(1, 1), []api.Msg{}, true})
	alone.Accepted = api.MaxCount
	_, _, ok = Begin(alone)
	same(t, "no epoch left", ok, false)
}

func TestPromise(t *testing.T) {
	p := began(of(three))
	got := heard(p, info(3, 40))
	same(t, "an observer", []any{got.l, got.ok, got.p.Learners, got.p.Epoch}, []any{[]string{}, true, []api.Learner{{Id: 3, Phase: 1, Accepted: 40}}, 0})
	got = heard(got.p, info(1, 0))
	same(t, "the example, above what the observer promised", []any{got.l, got.ok, got.p.Epoch, got.p.Accepted, got.p.Phase}, []any{[]string{"3>1 48", "3>3 48"}, true, 48, 48, 1})
	got = heard(began(of(three)), info(1, 0))
	same(t, "the example", got.l, []string{"3>1 16"})
	p = got.p
	got = heard(p, info(2, 16))
	same(t, "one more", []any{got.l, got.p.Learners[1]}, []any{[]string{"3>2 16"}, api.Learner{Id: 2, Phase: 1, Accepted: 16}})
	_, l, ok := Hear(p, info(2, 17))
	same(t, "a greater promise", []any{l, ok}, []any{[]api.Msg{}, false})
	p.Learners[0].Quiet = 4
	got = heard(p, info(1, 5))
	same(t, "again in Phase 1", got.p.Learners, []api.Learner{{Id: 1, Phase: 1, Accepted: 5}})
	got = heard(full(), info(1, 5))
	same(t, "again in Phase 4", []any{got.l, got.p.Learners}, []any{[]string{"3>1 16"}, []api.Learner{{Id: 1, Phase: 1, Accepted: 5}}})
	_, _, ok = Hear(began(of(three)), info(1, api.MaxCount))
	same(t, "no epoch left", ok, false)
}

// P21.4
func TestGather(t *testing.T) {
	p := hears(began(of(three, z(1, 1), z(1, 2))), info(1, 0), info(2, 0), info(3, 0))
	p.Wait = 4
	got := heard(p, ackEpoch(3, 16, 99, z(1, 1), z(0, 0), z(9, 9)))
	same(t, "an observer's", []any{got.l, got.ok, got.p.Phase, got.p.Done, got.p.Learners[2]}, []any{[]string{}, true, 1, z(1, 1), api.Learner{Id: 3, Phase: 2, Current: 99, Marks: []api.Zxid{z(0, 0), z(9, 9)}}})
	got = heard(got.p, ackEpoch(1, 16, 0, z(1, 1), z(0, 0), z(1, 1)))
	same(t, "a quorum of promises", []any{got.l, got.ok, got.p.Phase, got.p.Wait, got.p.Current, got.p.Learners[0].Phase, got.p.Learners[2].Phase}, []any{[]string{"5>1 16 plan 1 [{1 2}]"}, true, 2, 0, 16, 3, 2})
	again := heard(got.p, ackEpoch(2, 16, 0, z(1, 2), z(0, 0), z(1, 1), z(2, 7)))
	same(t, "one more, in Phase 2", []any{again.l, again.p.Done, again.p.Learners[1].Phase}, []any{[]string{"5>2 16 plan 2 [{1 2}]"}, z(1, 1), 3})
	for i, c := range []struct {
		m    api.Msg
		ok   bool
		done api.Zxid
	}{
		{ackEpoch(1, 16, 1, z(1, 2), z(0, 0)), false, z(1, 2)}, {ackEpoch(1, 16, 0, z(0, 0), z(1, 3)), false, z(0, 0)}, {ackEpoch(1, 16, 0, z(0, 0), z(9, 9), z(1, 2)), true, z(0, 0)},
		{ackEpoch(1, 16, -1, z(1, 3), z(9, 9)), true, z(0, 0)}, {ackEpoch(3, 16, 5, z(0, 0), z(9, 9)), true, z(0, 0)},
	} {
		got := heard(p, c.m)
		same(t, fmt.Sprint("a history ", i), []any{got.ok, got.p.Done}, []any{c.ok, c.done})
	}
	for i, q := range []api.Peer{again.p, hears(full(), info(2, 0))} {
		q = hears(q, info(1, 0))
		got = heard(q, ackEpoch(1, 16, 99, z(1, 2), z(0, 0), z(99, 9)))
		same(t, fmt.Sprint("a better history, too late ", i), []any{got.ok, got.p.Done, got.p.Learners[0].Phase}, []any{true, q.Done, 3})
	}
	got = heard(p, ackEpoch(1, 16, 0, z(0, 0)))
	same(t, "without marks", []any{got.l, got.p.Learners[0].Phase}, []any{[]string{}, 1})
}

const five = " 0p1g0 1p1g0 2p1g0 3p1g0 4p1g0"

// P21.3, P21.4, P21.9: as long as no epoch is chosen there is none that a message could be of.
func TestNotChosen(t *testing.T) {
	p := hears(began(of(five, z(1, 1))), info(1, 0))
	p.Learners[0].Quiet = 2
	for i, m := range []api.Msg{
		ackEpoch(1, 0, 0, z(1, 1), z(0, 0), z(1, 1)), ackEpoch(1, 0, 9, z(0, 0), z(0, 0)), ackEpoch(1, 0, 0, z(0, 0), z(0, 0), z(2, 1)), ackEpoch(1, 16, 0, z(1, 1), z(0, 0)),
		ackSync(1, 0, z(1, 1)), acked(1, 0, z(1, 1)), {From: 1, Kind: api.MsgPong},
	} {
		same(t, fmt.Sprint("as no epoch is chosen ", i), heard(p, m), call{p, []string{}, true})
	}
	p = hears(p, ackEpoch(1, 0, 0, z(1, 1), z(0, 0), z(1, 1)), info(2, 0))
	same(t, "chosen behind that", []any{p.Epoch, p.Phase, p.Done, p.Learners[0].Phase, p.Learners[1].Phase}, []any{16, 1, z(0, 0), 1, 1})
	p = hears(p, ackEpoch(2, 16, 0, z(0, 0), z(0, 0)))
	same(t, "one has promised", []any{p.Phase, p.Learners[0].Phase, p.Learners[1].Phase}, []any{1, 1, 2})
	p = hears(p, ackEpoch(1, 16, 0, z(0, 0), z(0, 0)))
	same(t, "both have promised", []any{p.Phase, p.Learners[0].Phase, p.Learners[1].Phase}, []any{2, 3, 3})
}

// P21.5
func TestEstablish(t *testing.T) {
	p := hears(began(of(three, z(1, 1))), info(1, 0), info(2, 0), info(3, 0), ackEpoch(3, 16, 0, z(0, 0), z(0, 0)), ackEpoch(1, 16, 0, z(0, 0), z(0, 0)))
	p.Wait = 4
	got := heard(p, ackSync(1, 16, z(1, 0)))
	same(t, "not all of it", []any{got.l, got.p.Phase, got.p.Learners[0]}, []any{[]string{}, 2, api.Learner{Id: 1, Phase: 4, Marks: []api.Zxid{z(0, 0)}, Acked: z(1, 0)}})
	got = heard(p, ackSync(1, 16, z(1, 1)))
	same(t, "all of it", []any{got.l, got.ok, got.p.Phase, got.p.Wait, got.p.Done}, []any{[]string{"7>1 16 at {1 1}", "5>3 16 plan 1 [{1 1}]"}, true, 3, 0, z(1, 1)})
	p = hears(got.p, ackEpoch(2, 16, 0, z(0, 0), z(0, 0)))
	p, _, _ = Propose(p, api.Txn{At: z(16, 1)})
	got = heard(p, ackSync(2, 16, z(16, 1)))
	same(t, "one more, in Phase 3", []any{got.l, got.p.Done}, []any{[]string{"7>2 16 at {1 1}", "10>1 16 at {16 1}", "10>2 16 at {16 1}", "11>3 16 txn {16 1}"}, z(16, 1)})
	got = heard(p, ackSync(1, 16, z(16, 1)))
	same(t, "of one in Phase 4", []any{got.l, got.p.Learners[0].Acked}, []any{[]string{}, z(1, 1)})
}

func conf(s string) []api.Part {
	return []api.Part{{Kind: api.PartConfig, Config: parse(s)}}
}

func TestGoes(t *testing.T) {
	// A leader that is dropped by its own history leads until that is known to hold, and gives up then.
	p := of(three, z(1, 1))
	p.History.Log[0].Parts = conf(" 1p1g0 2p1g0")
	p = hears(began(p), info(1, 0), info(2, 0), ackEpoch(1, 16, 0, z(0, 0), z(0, 0)), ackEpoch(2, 16, 0, z(0, 0), z(0, 0)), ackSync(1, 16, z(1, 1)))
	same(t, "not yet", p.Phase, 2)
	got := heard(p, ackSync(2, 16, z(1, 1)))
	same(t, "established without itself", []any{got.l, got.ok, got.p.Phase, got.p.Done}, []any{[]string{"7>1 16 at {1 1}", "7>2 16 at {1 1}"}, false, 3, z(1, 1)})
	p = hears(full(), info(2, 0), ackEpoch(2, 16, 0, z(0, 0), z(0, 0)), ackSync(2, 16, z(1, 1)))
	p, _, ok := Propose(p, api.Txn{At: z(16, 1), Parts: conf(" 1p1g0 2p1g0")})
	p, _, more := Hear(p, acked(1, 16, z(16, 1)))
	same(t, "it leads on", []bool{ok, more}, []bool{true, true})
	got = heard(p, acked(2, 16, z(16, 1)))
	same(t, "committed without itself", []any{got.l, got.ok, got.p.Done}, []any{[]string{"10>1 16 at {16 1}", "10>2 16 at {16 1}"}, false, z(16, 1)})
}

// P21.6
func TestCommit(t *testing.T) {
	p := hears(full(), info(3, 0), ackEpoch(3, 16, 0, z(0, 0), z(0, 0)), info(4, 0), ackEpoch(4, 16, 0, z(0, 0), z(0, 0)), ackSync(4, 16, z(1, 1)), info(5, 0), info(2, 0), ackEpoch(2, 16, 0, z(0, 0), z(0, 0)))
	p, _, _ = Propose(p, api.Txn{At: z(16, 1)})
	p, _, _ = Propose(p, api.Txn{At: z(16, 2)})
	p.Learners[0].Quiet = 3
	got := heard(p, acked(1, 16, z(16, 2)))
	same(t, "a quorum", []any{got.l, got.p.Done, got.p.Learners[0].Quiet, got.p.Learners[0].Acked}, []any{[]string{"10>1 16 at {16 2}", "11>3 16 txn {16 1}", "11>3 16 txn {16 2}", "11>4 16 txn {16 1}", "11>4 16 txn {16 2}"}, z(16, 2), 0, z(16, 2)})
	got = heard(p, acked(4, 16, z(16, 2)))
	same(t, "of one that does not vote", []any{got.l, got.p.Done, got.p.Learners[3].Acked}, []any{[]string{}, z(1, 1), z(16, 2)})
	for _, m := range []api.Msg{acked(1, 16, z(1, 1)), acked(1, 16, z(1, 0)), acked(2, 16, z(16, 1)), acked(5, 16, z(16, 1))} {
		got = heard(p, m)
		same(t, "nothing new, or of a lesser Phase", []any{got.l, got.p}, []any{[]string{}, p})
	}
}

// P21.7
func TestPropose(t *testing.T) {
	place, ok := Place(full())
	same(t, "the epoch's first", []any{place, ok}, []any{z(16, 1), true})
	p := hears(full(), info(2, 0), ackEpoch(2, 16, 0, z(0, 0), z(0, 0)), info(3, 0), ackEpoch(3, 16, 0, z(0, 0), z(0, 0)), ackSync(3, 16, z(1, 1)), info(4, 0))
	for _, at := range []api.Zxid{z(16, 2), z(1, 2), z(17, 1), {}} {
		q, l, ok := Propose(p, api.Txn{At: at})
		same(t, "another place", []any{q, l, ok}, []any{p, []api.Msg{}, true})
	}
	p, l, ok := Propose(p, api.Txn{At: z(16, 1)})
	same(t, "Propose", []any{told(l), ok, history.Last(p.History), p.Done}, []any{[]string{"8>1 16 txn {16 1}", "8>2 16 txn {16 1}"}, true, z(16, 1), z(1, 1)})
	place, ok = Place(p)
	same(t, "the next", []any{place, ok}, []any{z(16, 2), true})
	p, l, _ = Propose(p, api.Txn{At: z(16, 2), Parts: conf(" 0p1g0 1p1g0 2o1g0 3p1g0")})
	same(t, "who votes now", told(l), []string{"8>1 16 txn {16 2}", "8>2 16 txn {16 2}", "8>3 16 txn {16 1}", "8>3 16 txn {16 2}"})
	p.History.Log[2].At.N = api.MaxCount
	_, ok = Place(p)
	same(t, "no place left", ok, false)
	_, ok = Place(began(of(three)))
	same(t, "no place in Phase 1", ok, false)
	alone := began(of(" 0p1g0"))
	alone, l, ok = Propose(alone, api.Txn{At: z(16, 1)})
	same(t, "alone", []any{len(l), ok, alone.Done}, []any{0, true, z(16, 1)})
}

// P21.8
func TestTick(t *testing.T) {
	p := began(of(three))
	var ok bool
	for n := 1; n < 10; n++ {
		p, _, ok = Tick(p)
		same(t, "Tick in Phase 1", []any{p.Wait, ok}, []any{n, n < 9})
	}
	p = hears(full(), info(2, 0), ackEpoch(2, 16, 0, z(0, 0), z(0, 0)), info(3, 0))
	for n := 1; n < 10; n++ {
		var l []api.Msg
		p, l, ok = Tick(p)
		same(t, "Tick in Phase 3", []any{told(l), p.Wait, p.Learners[0].Quiet, p.Learners[2].Quiet, ok}, []any{[]string{"12>1 16", "12>2 16"}, n, n, n, n < 9})
	}
	p = hears(p, api.Msg{From: 3, Kind: api.MsgPong, Epoch: 16}, api.Msg{From: 1, Kind: api.MsgPong, Epoch: 16})
	same(t, "MsgPong", []int{p.Learners[0].Quiet, p.Learners[1].Quiet, p.Learners[2].Quiet}, []int{0, 9, 0})
	_, _, ok = Tick(p)
	same(t, "heard again", ok, true)
	p, l, ok := Lost(p, 1)
	same(t, "Lost", []any{len(l), ok, len(p.Learners), p.Learners[0].Id}, []any{0, true, 2, 2})
	_, _, ok = Tick(p)
	same(t, "a quorum less", ok, false)
	far := of(three)
	far.Mode, far.Phase, far.Wait = api.Leading, 2, 8
	_, _, ok = Tick(far)
	same(t, "Tick in Phase 2", ok, false)
}

// P21.9
func TestNothing(t *testing.T) {
	p := full()
	for i, m := range []api.Msg{
		{From: 0, Kind: api.MsgInfo}, {From: -1, Kind: api.MsgInfo}, {From: 16, Kind: api.MsgInfo}, {From: math.MinInt, Kind: api.MsgInfo}, {From: 1, Kind: api.MsgVote, Epoch: 16}, {From: 1, Kind: 99, Epoch: 16}, {From: 1, Kind: api.MsgPing, Epoch: 16},
		acked(1, 15, z(16, 1)), acked(2, 16, z(16, 1)), ackSync(1, 16, z(16, 1)), ackEpoch(1, 16, 0, z(0, 0), z(0, 0)), ackEpoch(2, 16, 0, z(0, 0), z(0, 0)), {From: 1, Kind: api.MsgPong, Epoch: 17}, {From: 2, Kind: api.MsgPong, Epoch: 16},
	} {
		q, l, ok := Hear(p, m)
		same(t, fmt.Sprint("a message that changes nothing ", i), []any{q, l, ok}, []any{p, []api.Msg{}, true})
	}
	for _, mode := range []int{0, api.Looking, api.Learning} {
		q := full()
		q.Mode = mode
		a, l, first := Hear(q, info(2, 0))
		b, m, second := Propose(q, api.Txn{At: z(16, 1)})
		c, n, third := Tick(q)
		d, o, fourth := Lost(q, 1)
		_, ok := Place(q)
		same(t, "one that does not lead", []any{a, b, c, d, len(l) + len(m) + len(n) + len(o), ok}, []any{q, q, q, q, 0, false})
		same(t, "it has nothing to give up", []bool{first, second, third, fourth}, []bool{true, true, true, true})
	}
}

// P21.10, P21.11, P21.12: a leader with learners that answer as they like.
func TestAny(t *testing.T) {
	r := rand.New(rand.NewSource(1))
	for range 300 {
		p := of(three, z(1, 1), z(1, 2))
		p.Accepted = r.Intn(40)
		p = began(p)
		accepted := p.Accepted
		rows := map[int][]api.Zxid{}
		for range 60 {
			was := p
			var l []api.Msg
			from := 1 + r.Intn(4)
			marks := [][]api.Zxid{{{}}, {{}, z(1, 1)}, {{}, z(1, 1), z(1, 2)}}[r.Intn(3)]
			last := history.Last(p.History)
			if r.Intn(2) == 0 {
				last = marks[len(marks)-1]
			}
			switch r.Intn(8) {
			case 0:
				p, l, _ = Hear(p, info(from, r.Intn(60)))
			case 1, 2:
				p, l, _ = Hear(p, ackEpoch(from, p.Epoch, 0, z(0, 0), marks...))
			case 3, 4:
				p, l, _ = Hear(p, ackSync(from, p.Epoch, last))
			case 5:
				p, l, _ = Hear(p, acked(from, p.Epoch, last))
			default:
				place, _ := Place(p)
				p, l, _ = Propose(p, api.Txn{At: place})
			}
			if p.Epoch != was.Epoch {
				for _, x := range p.Learners {
					accepted = max(accepted, x.Accepted)
				}
				if p.Epoch <= accepted || zxid.Owner(p.Epoch) != 0 || p.Accepted != p.Epoch {
					t.Fatalf("epoch %d above %d", p.Epoch, accepted)
				}
			}
			if zxid.Cmp(p.Done, was.Done) < 0 || zxid.Cmp(p.Done, history.Last(p.History)) > 0 {
				t.Fatalf("Done %v behind %v", p.Done, was.Done)
			}
			if p.Phase == 3 && ack.Commit(p.History, p.Done, 0, p.Learners) != p.Done {
				t.Fatalf("more is committed than %v", p.Done)
			}
			inOrder(t, p, rows, l)
		}
	}
}

// inOrder: from its plan on a learner gets transaction behind transaction.
func inOrder(t *testing.T, p api.Peer, rows map[int][]api.Zxid, l []api.Msg) {
	for _, m := range l {
		row := rows[m.To]
		switch m.Kind {
		case api.MsgSync:
			row = nil
			for _, u := range p.History.Log {
				if n := len(m.Plan.Log); n > 0 && zxid.Cmp(u.At, m.Plan.Log[n-1].At) <= 0 || n == 0 && zxid.Cmp(u.At, m.Plan.Keep) <= 0 {
					row = append(row, u.At)
				}
			}
		case api.MsgPropose, api.MsgInform:
			if len(row) == 0 || zxid.Cmp(m.Txn.At, row[len(row)-1]) > 0 {
				row = append(row, m.Txn.At)
			}
		}
		for i, at := range row {
			if p.History.Log[i].At != at {
				t.Fatalf("%d gets %v of %v", m.To, row, places(p.History.Log))
			}
		}
		rows[m.To] = row
	}
}
