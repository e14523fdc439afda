package script

import (
	"strconv"
	"strings"

	"witan/api"
	"witan/judge"
	"witan/world"
	"witan/zxid"
)

// Report: what comes of the script s.
func Report(s string) string {
	x, line, e := Parse(s)
	if e != api.OK {
		return told("wrong", int(e), line)
	}
	w, e := world.Run(x.Config, x.N, x.Size, x.Acts)
	if e != api.OK {
		return told("no world", int(e))
	}
	var b strings.Builder
	for _, f := range w.Facts {
		b.WriteString(factLine(f))
	}
	for _, s := range w.Servers {
		b.WriteString(serverLine(s))
	}
	b.WriteString(told("judge", judge.Judge(x.Config, w.Facts)))
	return b.String()
}

// told: a line of a report, of a word, and numbers and texts behind it.
func told(word string, l ...any) string {
	for _, x := range l {
		switch x := x.(type) {
		case int:
			word += " " + strconv.Itoa(x)
		case api.Zxid:
			word += " " + zxid.Text(x)
		case string:
			word += " " + x
		}
	}
	return word + "\n"
}

func factLine(f api.Fact) string {
	switch f.Kind {
	case api.FactJump:
		return told("jump", f.Node, f.At)
	case api.FactMade:
		return told("made", f.Node, f.Txn.At)
	case api.FactDone:
		return told("done", f.Node, f.Txn.At, f.Txn.Session, f.Txn.Xid, int(f.Txn.Err))
	case api.FactCall:
		return told("call", f.Node, f.Xid)
	case api.FactLost:
		return told("lost", f.Node, f.Xid)
	case api.FactSeen:
		n := f.Word.Note
		return told("seen", f.Node, n.What, n.Path, n.At)
	}
	return told("told", f.Node, f.Xid, int(f.Word.Err), f.Word.At, answer(f.Word))
}

// answer: what a client was told beside the error and the place.
func answer(w api.Word) string {
	s := w.Made
	if w.Node.Path != "" {
		s += w.Node.Data + " " + strconv.Itoa(w.Node.Version)
	}
	return s + strings.Join(w.Names, ",")
}

func serverLine(s api.Server) string {
	if !s.Up {
		return told("server", s.Id, "down")
	}
	p := s.Peer
	return told("server", s.Id, p.Mode, p.Phase, p.Epoch, s.State.At, len(s.State.Nodes), len(s.State.Sessions), s.State.Config.At)
}
