package peer

import (
	"slices"

	"witan/api"
	"witan/elect"
	"witan/history"
	"witan/lead"
	"witan/learn"
	"witan/reconf"
	"witan/zxid"
)

// step is a call under way: the server, which is its own, and what it has sent.
type step struct {
	p     api.Peer
	out   []api.Msg
	began bool // it began to lead
}

func (s *step) nothing(api.Input) {}

func (s *step) message(in api.Input) {
	switch m := in.Msg; {
	case m.To != s.p.Id:
	case m.Kind == api.MsgVote:
		s.vote(m)
	case s.p.Mode == api.Leading:
		s.take(lead.Hear(s.p, m))
	case s.p.Mode == api.Learning:
		s.take(learn.Hear(s.p, m))
	}
}

func (s *step) tick(api.Input) {
	switch s.p.Mode {
	case api.Leading:
		s.take(lead.Tick(s.p))
	case api.Learning:
		s.take(learn.Tick(s.p))
	case api.Looking:
		if !s.choose() {
			s.wait()
		}
	}
}

func (s *step) lost(in api.Input) {
	switch s.p.Mode {
	case api.Leading:
		s.take(lead.Lost(s.p, in.Node))
	case api.Learning:
		s.take(learn.Lost(s.p, in.Node))
	}
}

func (s *step) propose(in api.Input) {
	if s.p.Mode == api.Leading {
		s.take(lead.Propose(s.p, in.Txn))
	}
}

// take: the server behind a call of a leader or a learner; if that gave up, it looks, behind what it sent.
func (s *step) take(p api.Peer, l []api.Msg, goesOn bool) {
	s.p = p
	s.out = append(s.out, l...)
	if !goesOn {
		s.look()
	}
}

func (s *step) look() {
	s.leave()
	s.p.Seek = elect.Begin(s.p.Id, s.p.Seek.Round+1, s.p.Current, history.Last(s.p.History))
	needs := s.needs()
	if reconf.Role(needs[:1], s.p.Id) != api.Participant {
		s.sit()
	}
	s.shout()
	// A server that could not begin to lead just now could not do it again: it waits for a tick.
	if voting := reconf.Voting(needs); !s.began && len(voting) == 1 && voting[0] == s.p.Id {
		s.choose()
	}
}

// leave: it neither leads nor learns any more.
func (s *step) leave() {
	s.p.Mode, s.p.Leader = api.Looking, -1
	s.p.Phase, s.p.Wait, s.p.Epoch, s.p.Learners = 0, 0, 0, nil
}

// sit: it does not stand; any candidate is better.
func (s *step) sit() {
	v := s.p.Seek.Own
	v.Epoch, v.Last, v.Cand = -1, api.Zxid{}, -1
	s.p.Seek.Own, s.p.Seek.Now, s.p.Seek.Heard = v, v, []api.Vote{v}
}

// choose: whether its election is won; it leads, or learns, then.
func (s *step) choose() bool {
	needs := s.needs()
	if reconf.Role(needs, s.p.Id) != api.Participant {
		return false
	}
	id, won := elect.Winner(s.p.Seek, needs)
	switch {
	case !won:
	case id == s.p.Id:
		s.began = true
		s.take(lead.Begin(s.p))
	default:
		s.take(learn.Begin(s.p, id))
	}
	return won
}

func (s *step) wait() {
	s.p.Wait++
	if s.p.Wait > 2*api.Patience {
		s.look()
	} else {
		s.shout()
	}
}

func (s *step) vote(m api.Msg) {
	if m.Vote.From != m.From || m.From == s.p.Id || m.From < 0 || m.From >= api.MaxServers {
		return
	}
	switch s.p.Mode {
	case api.Looking:
		if s.news(m.At) {
			s.p.Done = m.At
			s.look()
			return
		}
		s.hear(m.Vote)
	case api.Leading, api.Learning:
		s.disturbed(m.Vote)
	}
}

// news: whether all up to z is known to be committed by that, and was not ahead.
func (s *step) news(z api.Zxid) bool {
	return zxid.Cmp(z, s.p.Done) > 0 && slices.Contains(history.Marks(s.p.History), z)
}

// hear: one that looks hears a vote.
func (s *step) hear(v api.Vote) {
	switch v.Mode {
	case api.Leading:
		if v.Cand == v.From {
			s.take(learn.Begin(s.p, v.From))
		}
	case api.Learning:
		if v.Cand >= 0 && v.Cand < api.MaxServers && v.Cand != s.p.Id {
			s.say(v.Cand, s.p.Seek.Now)
		}
	case api.Looking:
		s.seek(v)
	}
}

func (s *step) seek(v api.Vote) {
	needs := s.needs()
	var to int
	s.p.Seek, to = elect.Hear(s.p.Seek, reconf.Voting(needs), reconf.Voting(needs[:1]), v)
	switch to {
	case 1:
		s.shout()
	case 2:
		s.say(v.From, s.p.Seek.Now)
	}
}

// disturbed: one that leads or learns hears a vote.
func (s *step) disturbed(v api.Vote) {
	looks := v.Mode == api.Looking
	its := s.p.Mode == api.Learning && v.From == s.p.Leader
	switch {
	case !looks:
	case its && s.p.Phase > 1:
		s.look()
	case its && s.p.Phase == 1 && v.Cand != v.From:
		s.leave()
		s.hear(v)
	default:
		s.say(v.From, api.Vote{From: s.p.Id, Round: s.p.Seek.Round, Epoch: s.p.Current, Last: history.Last(s.p.History), Cand: s.p.Leader, Mode: s.p.Mode})
	}
}

func (s *step) needs() []api.Config {
	return history.Needs(s.p.History, s.p.Done)
}

func (s *step) shout() {
	for _, id := range reconf.Others(s.needs(), s.p.Id) {
		s.say(id, s.p.Seek.Now)
	}
}

func (s *step) say(to int, v api.Vote) {
	s.out = append(s.out, api.Msg{From: s.p.Id, To: to, Kind: api.MsgVote, Vote: v, At: s.p.Done})
}
