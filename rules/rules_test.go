// Package rules tests what DOC.md asks of every call: it ends and does not panic (R1), it changes and shares nothing (R3), and it answers the same again (R4).
package rules

import (
	"fmt"
	"math"
	"math/rand"
	"reflect"
	"runtime"
	"strings"
	"testing"

	"witan/codec"
)

// calls: every call that the chapters list, as far as it is built.
func calls() []any {
	return []any{
		codec.PutInt, codec.PutText, codec.Int, codec.Text, codec.Crc, codec.Seal, codec.Open, codec.Frames,
	}
}

var texts = []string{"", "/", "/a", "/a/b", "/b", "/q-", "//", "a", "1.2", "0.0 1 0p1g0", "3.7 1 0p1g0 2o1g0", "log.1", "snap", "facts", "facts.new",
	"/a/", "\x00", "\xff\xfe", "world 1 3000 0.0 1 0p1g0\ntick 0\n", "03.7", strings.Repeat("/abc", 16), strings.Repeat("/abc", 17)}

var ends = []int{math.MinInt, math.MaxInt, -1, 16, 17, 1 << 40, 1<<40 + 1, -1 << 40, 1 << 31, 60, 1000}

type maker struct {
	*rand.Rand
	wild int // one number of so many is far off
}

func (m maker) number() int {
	if m.Intn(m.wild) == 0 {
		return ends[m.Intn(len(ends))]
	}
	return m.Intn(5)
}

func (m maker) value(t reflect.Type, deep int) reflect.Value {
	v := reflect.New(t).Elem()
	switch t.Kind() {
	case reflect.Int:
		v.SetInt(int64(m.number()))
	case reflect.Uint8, reflect.Uint32:
		v.SetUint(uint64(m.Intn(256)))
	case reflect.Bool:
		v.SetBool(m.Intn(2) == 0)
	case reflect.String:
		v.SetString(texts[m.Intn(len(texts))])
	case reflect.Struct:
		for i := range t.NumField() {
			v.Field(i).Set(m.value(t.Field(i).Type, deep+1))
		}
	case reflect.Slice:
		n := m.Intn(max(1, 5-deep/2))
		if t.Elem().Kind() == reflect.Uint8 {
			n = m.Intn(30)
		}
		l := reflect.MakeSlice(t, n, n+m.Intn(3))
		for i := range l.Cap() {
			l.Slice(0, l.Cap()).Index(i).Set(m.value(t.Elem(), deep+1))
		}
		v.Set(l)
	default:
		panic("no value of " + t.String())
	}
	return v
}

// shown: a value as text, with the room behind the ends of its lists if whole is set.
func shown(b *strings.Builder, v reflect.Value, whole bool) {
	switch v.Kind() {
	case reflect.Struct:
		for i := range v.NumField() {
			shown(b, v.Field(i), whole)
		}
		b.WriteString(";")
	case reflect.Slice:
		n := v.Len()
		if whole {
			n = v.Cap()
		}
		fmt.Fprint(b, v.Len(), "[")
		for i := range n {
			shown(b, v.Slice(0, n).Index(i), whole)
		}
		b.WriteString("]")
	default:
		fmt.Fprintf(b, "%v,", v.Interface())
	}
}

func text(l []reflect.Value, whole bool) string {
	var b strings.Builder
	for _, v := range l {
		shown(&b, v, whole)
	}
	return b.String()
}

type span struct{ from, to uintptr }

func lists(out []span, v reflect.Value) []span {
	switch v.Kind() {
	case reflect.Struct:
		for i := range v.NumField() {
			out = lists(out, v.Field(i))
		}
	case reflect.Slice:
		if v.Cap() > 0 {
			out = append(out, span{v.Pointer(), v.Pointer() + uintptr(v.Cap())*v.Type().Elem().Size()})
		}
		for i := range v.Len() {
			out = lists(out, v.Index(i))
		}
	}
	return out
}

func spans(l []reflect.Value) []span {
	var out []span
	for _, v := range l {
		out = lists(out, v)
	}
	return out
}

func meet(a, b span) bool { return a.from < b.to && b.from < a.to }

func shared(args, out []reflect.Value) bool {
	in, got := spans(args), spans(out)
	for i, a := range got {
		for _, b := range in {
			if meet(a, b) {
				return true
			}
		}
		for _, b := range got[:i] {
			if meet(a, b) {
				return true
			}
		}
	}
	return false
}

func try(t *testing.T, f reflect.Value, name string, args []reflect.Value) (out []reflect.Value) {
	defer func() {
		if p := recover(); p != nil {
			b := make([]byte, 4000)
			t.Fatalf("%s panics: %v of %+v\n%s", name, p, args, b[:runtime.Stack(b, false)])
		}
	}()
	return f.Call(args)
}

func TestRules(t *testing.T) {
	for _, c := range calls() {
		f := reflect.ValueOf(c)
		name := runtime.FuncForPC(f.Pointer()).Name()
		t.Run(name, func(t *testing.T) {
			m := maker{rand.New(rand.NewSource(int64(len(name)))), 4}
			for i := range 1500 {
				m.wild = 2 + i%60
				var args []reflect.Value
				for i := range f.Type().NumIn() {
					args = append(args, m.value(f.Type().In(i), 0))
				}
				was := text(args, true)
				out := try(t, f, name, args)
				again := try(t, f, name, args)
				if text(args, true) != was {
					t.Fatalf("%s changes what it is handed: %+v", name, args)
				}
				if shared(args, out) {
					t.Fatalf("%s shares memory: of %+v it answers %+v", name, args, out)
				}
				if text(out, false) != text(again, false) {
					t.Fatalf("%s answers another thing again: of %+v", name, args)
				}
			}
		})
	}
}
