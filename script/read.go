package script

import (
	"strings"

	"witan/api"
	"witan/zxid"
)

// Words of lines that are no plain acts.
const (
	readNode = "node"
	readKids = "kids"
	watching = "watch"
	closing  = "close"
	asking   = "ask"
	changing = "config"
)

// plain is an act whose line has numbers alone: which fields they are, K for any number of Keep's.
type plain struct {
	word   string
	kind   int
	fields string
}

var plains = [...]plain{
	{"come", api.ActCome, "N"},
	{"say", api.ActSay, "N"},
	{"tick", api.ActTick, "A"},
	{"reset", api.ActReset, "AB"},
	{"cut", api.ActCut, "AB"},
	{"heal", api.ActHeal, "AB"},
	{"crash", api.ActCrash, "AK"},
	{"start", api.ActStart, "A"},
	{"arm", api.ActArm, "AN"},
	{"room", api.ActRoom, "AN"},
	{"connect", api.ActConnect, "AB"},
	{"beat", api.ActBeat, "A"},
	{"leave", api.ActLeave, "A"},
	{"calm", api.ActCalm, "N"},
}

// reader goes through the words of a line; wrong is set at the first that is not as it must be.
type reader struct {
	words []string
	wrong bool
}

// actOf: the act of which line is the text.
func actOf(line string) (api.Act, bool) {
	r := &reader{words: strings.Split(line, " ")}
	a := r.act(r.next())
	if r.wrong || len(r.words) > 0 {
		return api.Act{}, false
	}
	return a, true
}

func (r *reader) act(word string) api.Act {
	switch word {
	case readNode:
		return r.read(api.ReadNode)
	case readKids:
		return r.read(api.ReadKids)
	case closing:
		return api.Act{Kind: api.ActAsk, A: r.number(), Ask: api.Request{Kind: api.ReqClose}}
	case asking:
		return r.ask()
	case changing:
		return r.change()
	}
	for _, p := range plains {
		if p.word == word {
			return r.plain(p)
		}
	}
	r.wrong = true
	return api.Act{}
}

func (r *reader) plain(p plain) api.Act {
	a := api.Act{Kind: p.kind}
	for _, f := range p.fields {
		switch f {
		case 'A':
			a.A = r.number()
		case 'B':
			a.B = r.number()
		case 'N':
			a.N = r.number()
		case 'K':
			for len(r.words) > 0 {
				a.Keep = append(a.Keep, r.number())
			}
		}
	}
	return a
}

func (r *reader) read(kind int) api.Act {
	a := api.Act{Kind: api.ActRead, A: r.number(), N: kind}
	a.Path = r.path(r.next())
	if len(r.words) > 0 {
		a.Watch = true
		r.must(r.next() == watching)
	}
	return a
}

func (r *reader) ask() api.Act {
	a := api.Act{Kind: api.ActAsk, A: r.number(), Ask: api.Request{Kind: api.ReqOps}}
	r.must(len(r.words) > 0)
	for len(r.words) > 0 {
		a.Ask.Ops = append(a.Ask.Ops, r.op(strings.Split(r.next(), ":")))
	}
	return a
}

func (r *reader) op(l []string) api.Op {
	switch word := l[0]; {
	case len(l) == 3 && (word == "c" || word == "co" || word == "cs" || word == "cos"):
		return api.Op{Kind: api.OpCreate, Path: r.path(l[1]), Data: r.data(l[2]), Owned: strings.Contains(word, "o"), Seq: strings.Contains(word, "s")}
	case len(l) == 3 && word == "d":
		return api.Op{Kind: api.OpDelete, Path: r.path(l[1]), Version: r.version(l[2])}
	case len(l) == 3 && word == "v":
		return api.Op{Kind: api.OpCheck, Path: r.path(l[1]), Version: r.version(l[2])}
	case len(l) == 4 && word == "s":
		return api.Op{Kind: api.OpSet, Path: r.path(l[1]), Version: r.version(l[2]), Data: r.data(l[3])}
	}
	r.wrong = true
	return api.Op{}
}

func (r *reader) change() api.Act {
	a := api.Act{Kind: api.ActAsk, A: r.number(), N: 1, Ask: api.Request{Kind: api.ReqConfig}}
	d := &a.Ask.Delta
	d.Kind = r.number()
	r.must(within(limited{d.Kind, api.Grouped}))
	for len(r.words) > 0 && !strings.HasPrefix(r.words[0], "-") {
		d.Put = append(d.Put, r.member(r.next()))
	}
	for len(r.words) > 0 {
		id, dropped := strings.CutPrefix(r.next(), "-")
		n, ok := number(id)
		r.must(dropped && ok && within(limited{n, api.MaxServers - 1}))
		d.Drop = append(d.Drop, n)
	}
	return a
}

// member: a member as in a config's text.
func (r *reader) member(word string) api.Member {
	at := strings.IndexAny(word, "po")
	if at < 0 {
		r.wrong = true
		return api.Member{}
	}
	role := api.Participant
	if word[at] == 'o' {
		role = api.Observer
	}
	weighs, in, _ := strings.Cut(word[at+1:], "g")
	id, first := number(word[:at])
	weight, second := number(weighs)
	group, third := number(in)
	r.must(first && second && third && within(limited{id, api.MaxServers - 1}, limited{weight, api.MaxWeight}, limited{group, api.MaxGroup}))
	return api.Member{Id: id, Role: role, Weight: weight, Group: group}
}

// next: the next word; of none left an empty one, which is no word.
func (r *reader) next() string {
	if len(r.words) == 0 {
		return ""
	}
	w := r.words[0]
	r.words = r.words[1:]
	return w
}

func (r *reader) must(is bool) {
	if !is {
		r.wrong = true
	}
}

func (r *reader) number() int {
	n, ok := number(r.next())
	r.must(ok)
	return n
}

func (r *reader) version(s string) int {
	if s == "*" {
		return -1
	}
	n, ok := number(s)
	r.must(ok)
	return n
}

func (r *reader) path(s string) string {
	r.must(s != "" && len(s) <= api.MaxPath && visible(s))
	return s
}

func (r *reader) data(s string) string {
	r.must(len(s) <= api.MaxData && visible(s))
	return s
}

// visible: whether s may stand between blanks and colons.
func visible(s string) bool {
	for _, c := range []byte(s) {
		if c < 33 || c > 126 || c == ':' {
			return false
		}
	}
	return true
}

// number: numbers are as those of places.
func number(s string) (int, bool) {
	z, e := zxid.Parse(s + ".0")
	return z.Epoch, e == api.OK
}
