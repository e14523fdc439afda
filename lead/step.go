package lead

import (
	"slices"

	"witan/ack"
	"witan/api"
	"witan/history"
	"witan/own"
	"witan/quorum"
	"witan/reconf"
	"witan/zxid"
)

// step is a call under way: the peer, which is its own, and what it has sent.
type step struct {
	p      api.Peer
	out    []api.Msg
	gaveUp bool
}

func start(p api.Peer) *step {
	return &step{p: Own(p)}
}

func (s *step) end() (api.Peer, []api.Msg, bool) {
	return s.p, s.out, !s.gaveUp
}

// concerns: whether m may be for this leader, in this epoch.
func (s *step) concerns(m api.Msg) bool {
	if m.From == s.p.Id || m.From < 0 || m.From >= api.MaxServers {
		return false
	}
	return m.Kind == api.MsgInfo || s.chosen() && m.Epoch == s.p.Epoch
}

// chosen: whether there is an epoch of this leader. As long as there is none, nobody can have promised it.
func (s *step) chosen() bool {
	return s.p.Epoch != 0
}

// doing: what is done with a message of that kind.
func (s *step) doing(kind int) func(api.Msg) {
	switch kind {
	case api.MsgInfo:
		return s.info
	case api.MsgAckEpoch:
		return s.ackEpoch
	case api.MsgAckSync:
		return s.ackSync
	case api.MsgAck:
		return s.acked
	case api.MsgPong:
		return s.pong
	}
	return s.nothing
}

func (s *step) nothing(api.Msg) {}

func (s *step) info(m api.Msg) {
	if s.chosen() && m.Epoch > s.p.Epoch {
		s.gaveUp = true
		return
	}
	x, there := s.learner(m.From, came)
	if !there {
		x = api.Learner{Id: m.From, Phase: came}
	}
	x.Accepted, x.Quiet = m.Epoch, 0
	s.lay(x)
	if s.chosen() {
		s.send(x.Id, api.Msg{Kind: api.MsgEpoch})
		return
	}
	s.choose()
}

// choose: with a quorum the epoch is chosen, above all that anyone of it promised.
func (s *step) choose() {
	if !s.enough(ack.Set(s.p.Id, s.p.Learners, came, api.Zxid{})) {
		return
	}
	most := s.p.Accepted
	for _, x := range s.p.Learners {
		most = max(most, x.Accepted)
	}
	epoch, e := zxid.Fresh(most, s.p.Id)
	if e != api.OK {
		s.gaveUp = true
		return
	}
	s.p.Epoch, s.p.Accepted = epoch, epoch
	for _, x := range s.p.Learners {
		s.send(x.Id, api.Msg{Kind: api.MsgEpoch})
	}
	s.gather()
}

func (s *step) ackEpoch(m api.Msg) {
	x, there := s.learner(m.From, came)
	if !there || len(m.Marks) == 0 {
		return
	}
	if s.p.Phase == gathers {
		if zxid.Cmp(m.At, s.p.Done) > 0 && slices.Contains(history.Marks(s.p.History), m.At) {
			s.p.Done = m.At
		}
		if s.voter()(x.Id) && s.ahead(m) {
			s.gaveUp = true
			return
		}
	}
	x.Phase, x.Current, x.Marks, x.Quiet = promised, m.Current, m.Marks, 0
	s.lay(x)
	switch {
	case s.p.Phase == gathers:
		s.gather()
	case s.p.Phase == leads, s.p.Phase == brings && s.voter()(x.Id):
		s.plan(x)
	}
}

// ahead: whether who sent m has a better history.
func (s *step) ahead(m api.Msg) bool {
	if m.Current != s.p.Current {
		return m.Current > s.p.Current
	}
	return zxid.Cmp(m.Marks[len(m.Marks)-1], history.Last(s.p.History)) > 0
}

// gather: with a quorum of promises the leader's history is the new epoch's.
func (s *step) gather() {
	if !s.chosen() || !s.enough(ack.Set(s.p.Id, s.p.Learners, promised, api.Zxid{})) {
		return
	}
	s.p.Phase, s.p.Wait, s.p.Current = brings, 0, s.p.Epoch
	votes := s.voter()
	for _, x := range s.p.Learners {
		if x.Phase == promised && votes(x.Id) {
			s.plan(x)
		}
	}
	s.establish()
}

// plan: who does not vote gets what is committed alone.
func (s *step) plan(x api.Learner) {
	h := s.p.History
	if !s.voter()(x.Id) {
		h, _ = history.Upto(h, s.p.Done)
	}
	s.send(x.Id, api.Msg{Kind: api.MsgSync, Plan: history.Make(h, x.Marks)})
	x.Phase = planned
	s.lay(x)
}

func (s *step) ackSync(m api.Msg) {
	x, there := s.learner(m.From, planned)
	if !there {
		return
	}
	x.Phase, x.Acked, x.Quiet = holds, m.At, 0
	s.lay(x)
	switch s.p.Phase {
	case brings:
		s.establish()
	case leads:
		s.send(x.Id, api.Msg{Kind: api.MsgReady, At: s.p.Done})
		s.commit()
	}
}

// establish: with a quorum that has all of it, the whole history is committed.
func (s *step) establish() {
	last := history.Last(s.p.History)
	if !s.enough(ack.Set(s.p.Id, s.p.Learners, holds, last)) {
		return
	}
	s.p.Phase, s.p.Wait, s.p.Done = leads, 0, last
	for _, x := range s.p.Learners {
		if x.Phase == holds {
			s.send(x.Id, api.Msg{Kind: api.MsgReady, At: last})
		}
	}
	for _, x := range s.p.Learners {
		if x.Phase == promised {
			s.plan(x)
		}
	}
	s.stay()
}

func (s *step) acked(m api.Msg) {
	x, there := s.learner(m.From, holds)
	if !there || zxid.Cmp(m.At, x.Acked) <= 0 {
		return
	}
	x.Acked, x.Quiet = m.At, 0
	s.lay(x)
	if s.p.Phase == leads {
		s.commit()
	}
}

func (s *step) commit() {
	z := ack.Commit(s.p.History, s.p.Done, s.p.Id, s.p.Learners)
	if z == s.p.Done {
		return
	}
	votes := s.voter()
	l := ack.Committed(s.p.History, s.p.Done, z)
	for _, x := range s.p.Learners {
		switch {
		case x.Phase == holds && votes(x.Id):
			s.send(x.Id, api.Msg{Kind: api.MsgCommit, At: z})
		case x.Phase >= planned && !votes(x.Id):
			s.sendEach(x.Id, api.MsgInform, l)
		}
	}
	s.p.Done = z
	s.stay()
}

func (s *step) pong(m api.Msg) {
	for i := range s.p.Learners {
		if s.p.Learners[i].Id == m.From {
			s.p.Learners[i].Quiet = 0
		}
	}
}

// stay: a leader that dropped itself leads until that is known to hold.
func (s *step) stay() {
	if len(s.needs()) == 1 && !s.voter()(s.p.Id) {
		s.gaveUp = true
	}
}

func (s *step) needs() []api.Config {
	return history.Needs(s.p.History, s.p.Done)
}

// voter: who votes, as things are now.
func (s *step) voter() func(int) bool {
	voting := reconf.Voting(s.needs())
	return func(id int) bool { return slices.Contains(voting, id) }
}

// enough: whether the set is a quorum of all that is needed.
func (s *step) enough(set []int) bool {
	return quorum.All(s.needs(), set)
}

// learner: the one of that number, if it is in that phase.
func (s *step) learner(id, phase int) (api.Learner, bool) {
	for _, x := range s.p.Learners {
		if x.Id == id && x.Phase == phase {
			return x, true
		}
	}
	return api.Learner{}, false
}

func (s *step) lay(x api.Learner) {
	s.p.Learners = ack.Learners(s.p.Learners, x)
}

func (s *step) send(to int, m api.Msg) {
	m.From, m.To, m.Epoch = s.p.Id, to, s.p.Epoch
	s.out = append(s.out, m)
}

func (s *step) sendEach(to, kind int, l []api.Txn) {
	for _, t := range l {
		s.send(to, api.Msg{Kind: kind, Txn: own.Txn(t)})
	}
}
