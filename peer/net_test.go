package peer

import (
	"math/rand"
	"testing"

	"witan/api"
	"witan/history"
	"witan/lead"
	"witan/quorum"
	"witan/reconf"
	"witan/state"
	"witan/zxid"
)

// known is a transaction that was known to be committed, in that epoch.
type known struct {
	txn   api.Txn
	epoch int
}

// net is servers, and what is on the way between any two of them, in order.
type net struct {
	*testing.T
	*rand.Rand
	peers   []api.Peer
	up      []bool
	mail    map[[2]int][]api.Msg
	dead    map[[2]int]bool // whose messages do not come any more, until the link is lost
	leaders map[int]int
	known   []known
	log     []api.Txn // the longest that anyone knew to be committed
}

func newNet(t *testing.T, r *rand.Rand, c api.Config, n int) *net {
	x := &net{T: t, Rand: r, mail: map[[2]int][]api.Msg{}, dead: map[[2]int]bool{}, leaders: map[int]int{}, peers: make([]api.Peer, n), up: make([]bool, n)}
	image := state.Start(c)
	image.Sessions, image.Next = []int{1}, 2
	for id := range n {
		x.peers[id].History.Image = image
		x.start(id)
	}
	return x
}

func (x *net) start(id int) {
	k := api.Saved{Accepted: x.peers[id].Accepted, Current: x.peers[id].Current, History: x.peers[id].History}
	p, l := Start(id, k)
	x.up[id] = true
	x.now(id, p, l)
}

func (x *net) step(id int, in api.Input) {
	if x.up[id] {
		p, l := Step(x.peers[id], in)
		x.now(id, p, l)
	}
}

func (x *net) now(id int, p api.Peer, l []api.Msg) {
	was := x.peers[id]
	x.peers[id] = p
	for _, m := range l {
		if m.To < len(x.peers) && x.up[m.To] && !x.dead[[2]int{id, m.To}] {
			x.mail[[2]int{id, m.To}] = append(x.mail[[2]int{id, m.To}], m)
		}
	}
	x.check(was, p)
}

func (x *net) check(was, p api.Peer) {
	if p.Mode == api.Leading && p.Epoch != 0 {
		if id, there := x.leaders[p.Epoch]; there && id != p.Id {
			x.Fatalf("%d and %d lead in epoch %d", id, p.Id, p.Epoch)
		}
		x.leaders[p.Epoch] = p.Id
		if p.Phase == 3 && (was.Phase != 3 || was.Epoch != p.Epoch) {
			x.checkLeader(p)
		}
	}
	for i, t := range p.History.Log {
		if zxid.Cmp(t.At, p.Done) > 0 {
			break
		}
		if i == len(x.log) {
			x.log = append(x.log, t)
			x.known = append(x.known, known{t, p.Epoch})
		}
		if !state.SameTxn(x.log[i], t) {
			x.Fatalf("%d knows %v to be committed, another one %v", p.Id, t, x.log[i])
		}
	}
}

// checkLeader: it has all that was known to be committed in an epoch below its own.
func (x *net) checkLeader(p api.Peer) {
	for i, k := range x.known {
		if k.epoch < p.Epoch && (i >= len(p.History.Log) || !state.SameTxn(p.History.Log[i], k.txn)) {
			x.Fatalf("the leader %d of epoch %d has not %v, which was committed", p.Id, p.Epoch, k.txn.At)
		}
	}
}

// lose: the link of both is lost, on both sides.
func (x *net) lose(a, b int) {
	for _, pair := range [][2]int{{a, b}, {b, a}} {
		delete(x.mail, pair)
		delete(x.dead, pair)
	}
	x.step(a, api.Input{Kind: api.InLost, Node: b})
	x.step(b, api.Input{Kind: api.InLost, Node: a})
}

func (x *net) crash(id int) {
	x.up[id] = false
	for other := range x.peers {
		if other != id {
			x.lose(id, other)
		}
	}
}

// come: the first message from one to the other comes.
func (x *net) come(pair [2]int) bool {
	l := x.mail[pair]
	if len(l) == 0 {
		return false
	}
	x.mail[pair] = l[1:]
	x.step(pair[1], api.Input{Kind: api.InMsg, Msg: l[0]})
	return true
}

// some: a message comes, if there is one.
func (x *net) some() {
	n := len(x.peers)
	from := x.Intn(n * n)
	for i := range n * n {
		k := (from + i) % (n * n)
		if x.come([2]int{k / n, k % n}) {
			return
		}
	}
}

func (x *net) all() {
	for again := true; again; {
		again = false
		for a := range x.peers {
			for b := range x.peers {
				again = x.come([2]int{a, b}) || again
			}
		}
	}
}

// ask: one that leads in full broadcasts, now and then another config, or just what anyone asks for.
func (x *net) ask(id int) {
	p := x.peers[id]
	at, ok := lead.Place(p)
	if !x.up[id] || !ok {
		return
	}
	t := api.Txn{At: at, Xid: x.Intn(1000000)}
	if x.Intn(4) == 0 {
		r := api.Request{Session: 1, Want: history.StateAt(p.History, history.Last(p.History)).Config.At, Delta: api.Delta{Kind: x.Intn(4)}}
		if x.Intn(2) == 0 {
			r.Delta.Put = []api.Member{{Id: x.Intn(len(x.peers)), Role: 1 + x.Intn(2), Weight: 1 + x.Intn(3), Group: x.Intn(3)}}
		} else {
			r.Delta.Drop = []int{x.Intn(len(x.peers))}
		}
		c, e := reconf.Ask(p.History, p.Done, p.Id, p.Learners, r)
		if e != api.OK {
			return
		}
		t.Parts = []api.Part{{Kind: api.PartConfig, Config: c}}
	}
	x.step(id, api.Input{Kind: api.InPropose, Txn: t})
}

func (x *net) anything() {
	n := len(x.peers)
	a, b := x.Intn(n), x.Intn(n)
	switch k := x.Intn(100); {
	case k < 70:
		x.some()
	case k < 82:
		x.step(a, api.Input{Kind: api.InTick})
	case k < 94:
		x.ask(a)
	case k < 95 && a != b:
		x.dead[[2]int{a, b}] = true
	case k < 97 && a != b:
		x.lose(a, b)
	case k < 98:
		x.crash(a)
	case !x.up[a]:
		x.start(a)
	}
}

// calm: nothing is lost any more, and all are up.
func (x *net) calm(rounds int) {
	for a := range x.peers {
		for b := range x.peers {
			if x.dead[[2]int{a, b}] {
				x.lose(a, b)
			}
		}
	}
	for id := range x.peers {
		if !x.up[id] {
			x.start(id)
		}
	}
	for range rounds {
		x.all()
		for id := range x.peers {
			x.step(id, api.Input{Kind: api.InTick})
		}
	}
	x.all()
}

// goesOn: one leads in full, all who vote follow it, and all its history is committed.
func (x *net) goesOn() {
	var leader api.Peer
	n := 0
	for _, p := range x.peers {
		if _, ok := lead.Place(p); ok {
			leader = p
			n++
		}
	}
	if n != 1 || leader.Done != history.Last(leader.History) {
		x.Fatalf("%d lead in full, committed up to %v of %v", n, leader.Done, history.Last(leader.History))
	}
	needs := history.Needs(leader.History, leader.Done)
	for _, id := range reconf.Voting(needs) {
		p := x.peers[id]
		if id != leader.Id && (p.Mode != api.Learning || p.Leader != leader.Id || p.Phase != 4 || p.Epoch != leader.Epoch) {
			x.Fatalf("%d votes, and does not learn from %d: mode %d, phase %d of %d", id, leader.Id, p.Mode, p.Phase, p.Leader)
		}
	}
	if !quorum.All(needs, append(reconf.Voting(needs), leader.Id)) || reconf.Role(needs, leader.Id) != api.Participant {
		x.Fatalf("%d leads, and does not vote", leader.Id)
	}
}

// P23.7, P23.8, P23.9, P23.10
func TestNet(t *testing.T) {
	configs := []api.Config{parse(" 0p1g0"), parse(" 0p1g0 1p1g0"), parse(" 0p1g0 1p1g0 2p1g0"), parse(" 0p1g0 1p1g0 2p1g0 3o1g0"), parse(" 0p1g0 1p1g0 2p1g0 3p1g0 4p1g0"), parse(" 1p5g0 2p1g1 3p1g2")}
	configs[5].Kind = api.Weighted
	for seed := range 300 {
		r := rand.New(rand.NewSource(int64(seed)))
		x := newNet(t, r, configs[seed%len(configs)], 5)
		for range 2 {
			for range 300 + r.Intn(500) {
				x.anything()
				if r.Intn(150) == 0 {
					x.all()
				}
			}
			x.calm(40)
			if x.Failed() {
				t.Fatalf("seed %d", seed)
			}
			x.goesOn()
		}
	}
}
