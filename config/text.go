package config

import (
	"strings"

	"witan/api"
	"witan/zxid"
)

// Letters of the roles in a text.
const (
	votes   = 'p'
	watches = 'o'
	group   = 'g'
)

// longest is how many digits a member's number has at most.
const longest = 3

// Text: c as a text.
func Text(c api.Config) string {
	if Check(c) != api.OK {
		return ""
	}
	s := zxid.Text(c.At) + " " + decimal(c.Kind)
	for _, m := range c.Members {
		role := votes
		if m.Role == api.Observer {
			role = watches
		}
		s += " " + decimal(m.Id) + string(role) + decimal(m.Weight) + string(group) + decimal(m.Group)
	}
	return s
}

// Parse: the config of which s is the text.
func Parse(s string) (api.Config, api.Errno) {
	c, ok := shaped(strings.Split(s, " "))
	if !ok {
		return api.Config{}, api.ErrForm
	}
	if e := Check(c); e != api.OK {
		return api.Config{}, e
	}
	return c, api.OK
}

// shaped: the config of these words, whether it may be or not.
func shaped(words []string) (api.Config, bool) {
	if len(words) < 2 || len(words[1]) != 1 {
		return api.Config{}, false
	}
	at, e := zxid.Parse(words[0])
	kind, rest := number(words[1])
	if e != api.OK || kind < 0 || rest != "" {
		return api.Config{}, false
	}
	c := api.Config{At: at, Kind: kind}
	for _, w := range words[2:] {
		m, ok := member(w)
		if !ok {
			return api.Config{}, false
		}
		c.Members = append(c.Members, m)
	}
	return c, true
}

func member(w string) (api.Member, bool) {
	id, w := number(w)
	role := api.Participant
	if strings.HasPrefix(w, string(watches)) {
		role = api.Observer
	} else if !strings.HasPrefix(w, string(votes)) {
		return api.Member{}, false
	}
	weight, w := number(w[1:])
	if !strings.HasPrefix(w, string(group)) {
		return api.Member{}, false
	}
	in, w := number(w[1:])
	if id < 0 || weight < 0 || in < 0 || w != "" {
		return api.Member{}, false
	}
	return api.Member{Id: id, Role: role, Weight: weight, Group: in}, true
}

// decimal: a number that is not below 0.
func decimal(n int) string {
	digits := []rune{digit(n)}
	for n /= 10; n > 0; n /= 10 {
		digits = append([]rune{digit(n)}, digits...)
	}
	return string(digits)
}

func digit(n int) rune {
	return '0' + rune(n%10)
}

// number: the number that s begins with, and what stands behind it; -1 if it does not begin with one as it must be.
func number(s string) (int, string) {
	n, end := 0, 0
	for _, c := range s {
		if c < '0' || c > '9' || end == longest {
			break
		}
		n = 10*n + int(c-'0')
		end++
	}
	if end == 0 || end > 1 && s[0] == '0' {
		return -1, s[end:]
	}
	return n, s[end:]
}
