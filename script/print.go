package script

import (
	"strconv"

	"witan/api"
)

// lineOf: the line of an act; of one that has none, a line that is not read as it.
func lineOf(a api.Act) string {
	who := strconv.Itoa(a.A)
	switch a.Kind {
	case api.ActRead:
		return readLine(a)
	case api.ActAsk:
		switch a.Ask.Kind {
		case api.ReqClose:
			return spaced(closing, who)
		case api.ReqOps:
			return spaced(asking, who) + opWords(a.Ask.Ops)
		case api.ReqConfig:
			return spaced(changing, who, strconv.Itoa(a.Ask.Delta.Kind)) + deltaWords(a.Ask.Delta)
		}
	}
	for _, p := range plains {
		if p.kind == a.Kind {
			return p.word + numbers(a, p.fields)
		}
	}
	return ""
}

func numbers(a api.Act, fields string) string {
	var l []int
	for _, f := range fields {
		switch f {
		case 'A':
			l = append(l, a.A)
		case 'B':
			l = append(l, a.B)
		case 'N':
			l = append(l, a.N)
		case 'K':
			l = append(l, a.Keep...)
		}
	}
	s := ""
	for _, n := range l {
		s += " " + strconv.Itoa(n)
	}
	return s
}

func readLine(a api.Act) string {
	word := readNode
	if a.N == api.ReadKids {
		word = readKids
	}
	s := spaced(word, strconv.Itoa(a.A), a.Path)
	if a.Watch {
		s = spaced(s, watching)
	}
	return s
}

func opWords(l []api.Op) string {
	s := ""
	for _, o := range l {
		s += " " + opWord(o)
	}
	return s
}

func opWord(o api.Op) string {
	version := strconv.Itoa(o.Version)
	if o.Version == -1 {
		version = "*"
	}
	switch o.Kind {
	case api.OpCreate:
		word := "c"
		if o.Owned {
			word += "o"
		}
		if o.Seq {
			word += "s"
		}
		return word + ":" + o.Path + ":" + o.Data
	case api.OpDelete:
		return "d:" + o.Path + ":" + version
	case api.OpCheck:
		return "v:" + o.Path + ":" + version
	case api.OpSet:
		return "s:" + o.Path + ":" + version + ":" + o.Data
	}
	return ""
}

func deltaWords(d api.Delta) string {
	s := ""
	for _, m := range d.Put {
		role := "p"
		if m.Role == api.Observer {
			role = "o"
		}
		s += " " + strconv.Itoa(m.Id) + role + strconv.Itoa(m.Weight) + "g" + strconv.Itoa(m.Group)
	}
	for _, id := range d.Drop {
		s += " -" + strconv.Itoa(id)
	}
	return s
}
