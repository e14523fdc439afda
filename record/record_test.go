package record

import (
	"bytes"
	"fmt"
	"math"
	"math/rand"
	"reflect"
	"testing"

	"witan/api"
	"witan/codec"
)

func same(t *testing.T, what string, got, want any) {
	t.Helper()
	if a, b := fmt.Sprint(got), fmt.Sprint(want); a != b {
		t.Errorf("%s: %s, want %s", what, a, b)
	}
}

// laid: numbers and texts one behind the other.
func laid(l ...any) []byte {
	var b []byte
	for _, x := range l {
		if s, ok := x.(string); ok {
			b = codec.PutText(b, s)
		} else {
			b = codec.PutInt(b, x.(int))
		}
	}
	return b
}

var (
	conf = api.Config{At: api.Zxid{Epoch: 11, N: 12}, Kind: 13, Members: []api.Member{{Id: 14, Role: 15, Weight: 16, Group: 17}}}
	node = api.Znode{Path: "/a", Data: "d", Version: 7, Kids: 8, Owner: 9}
	txn  = api.Txn{At: api.Zxid{Epoch: 1, N: 2}, Session: 3, Xid: 4, Err: 5, Bad: 6, Made: "m", Parts: []api.Part{{Kind: 1, Node: node, Session: 10, Config: conf}, {}}}
	st   = api.State{Nodes: []api.Znode{node}, Sessions: []int{21, 22}, Next: 23, Config: conf, At: api.Zxid{Epoch: 24, N: 25}}
	req  = api.Request{Kind: 1, Session: 2, Xid: 3, Ops: []api.Op{{Kind: 4, Path: "p", Data: "q", Version: -1, Owned: true}, {Seq: true}}, Delta: api.Delta{Kind: 5, Put: []api.Member{{Id: 6, Role: 7, Weight: 8, Group: 9}}, Drop: []int{10}}, Want: api.Zxid{Epoch: 11, N: 12}}
	msg  = api.Msg{From: 1, To: 2, Kind: 3, Vote: api.Vote{From: 4, Round: 5, Epoch: 6, Last: api.Zxid{Epoch: 7, N: 8}, Cand: 9, Mode: 10}, Epoch: 11, Current: 12, At: api.Zxid{Epoch: 13, N: 14}, Marks: []api.Zxid{{Epoch: 15, N: 16}},
		Plan: api.Plan{Kind: 17, Keep: api.Zxid{Epoch: 18, N: 19}, Image: st, Log: []api.Txn{txn}}, Txn: txn, Touched: []int{20, 21}, Ask: req}
	confBytes = laid(11, 12, 13, 1, 14, 15, 16, 17)
	nodeBytes = laid("/a", "d", 7, 8, 9)
	txnBytes  = join(laid(1, 2, 3, 4, 5, 6, "m", 2, 1), nodeBytes, laid(10), confBytes, laid(0, "", "", 0, 0, 0, 0, 0, 0, 0, 0))
	stBytes   = join(laid(1), nodeBytes, laid(2, 21, 22, 23), confBytes, laid(24, 25))
	reqBytes  = laid(1, 2, 3, 2, 4, "p", "q", -1, 1, 0, 0, "", "", 0, 0, 1, 5, 1, 6, 7, 8, 9, 1, 10, 11, 12)
	msgBytes  = join(laid(1, 2, 3, 4, 5, 6, 7, 8, 9, 10, 11, 12, 13, 14, 1, 15, 16, 17, 18, 19), stBytes, laid(1), txnBytes, txnBytes, laid(2, 20, 21), reqBytes)
)

func join(l ...[]byte) []byte { return bytes.Join(l, nil) }

// P12.1, P12.2
func TestPut(t *testing.T) {
	same(t, "PutZxid", PutZxid([]byte{1}, api.Zxid{Epoch: 3, N: 7}), []byte{1, 6, 14})
	same(t, "the example's config", PutConfig(nil, api.Config{Kind: 1, Members: []api.Member{{Id: 0, Role: 1, Weight: 1}}}), []byte{0, 0, 2, 2, 0, 2, 2, 0})
	ahead := []byte{9, 9}
	same(t, "PutConfig", PutConfig(ahead, conf), join(ahead, confBytes))
	same(t, "PutTxn", PutTxn(ahead, txn), join(ahead, txnBytes))
	same(t, "PutState", PutState(ahead, st), join(ahead, stBytes))
	same(t, "PutRequest", PutRequest(ahead, req), join(ahead, reqBytes))
	same(t, "PutMsg", PutMsg(ahead, msg), join(ahead, msgBytes))
}

// kinds: each call's Put and read, for all types alike.
func kinds() []struct{ put, read, x reflect.Value } {
	of := func(put, read, x any) struct{ put, read, x reflect.Value } {
		return struct{ put, read, x reflect.Value }{reflect.ValueOf(put), reflect.ValueOf(read), reflect.ValueOf(x)}
	}
	return []struct{ put, read, x reflect.Value }{of(PutConfig, Config, conf), of(PutTxn, Txn, txn), of(PutState, State, st), of(PutRequest, Request, req), of(PutMsg, Msg, msg)}
}

func reading(read reflect.Value, b []byte, at int) (any, int, api.Errno) {
	out := read.Call([]reflect.Value{reflect.ValueOf(b), reflect.ValueOf(at)})
	return out[0].Interface(), out[1].Interface().(int), out[2].Interface().(api.Errno)
}

// P12.3, P12.4, P12.5
func TestRead(t *testing.T) {
	for _, k := range kinds() {
		b := k.put.Call([]reflect.Value{reflect.ValueOf([]byte{7}), k.x})[0].Bytes()
		zero := reflect.Zero(k.x.Type()).Interface()
		x, end, e := reading(k.read, append(b[:len(b):len(b)], 1, 2), 1)
		same(t, "read", []any{x, end, e}, []any{k.x.Interface(), len(b), api.OK})
		for _, at := range []int{-1, len(b) + 1, math.MinInt, math.MaxInt} {
			x, end, e := reading(k.read, b, at)
			same(t, "read outside", []any{x, end, e}, []any{zero, 0, api.ErrArg})
		}
		for n := 1; n < len(b); n++ {
			x, end, e := reading(k.read, b[:n], 1)
			same(t, fmt.Sprint("read, cut off at ", n), []any{x, end, e}, []any{zero, 0, api.ErrShort})
		}
	}
}

func TestReadErrors(t *testing.T) {
	long := codec.PutInt(nil, api.MaxLoad+1)
	for i, c := range []struct {
		read any
		b    []byte
		e    api.Errno
	}{
		{Config, laid(1, 2, 3, -1), api.ErrForm}, {Config, laid(1, 2, 3, api.MaxLog+1), api.ErrLong}, {Config, laid(1, 2, 3, api.MaxLog), api.ErrShort}, {Config, []byte{0x80, 0}, api.ErrForm},
		{Config, bytes.Repeat([]byte{255}, 20), api.ErrLong}, {Txn, join(laid(1, 2, 3, 4, 5, 6), long), api.ErrLong}, {Txn, laid(1, 2, 3, 4, 5, 6, -2), api.ErrForm}, {Txn, laid(1, 2, 3, 4, 5, 6, "m", -1), api.ErrForm},
		{State, laid(-1), api.ErrForm}, {State, laid(1001), api.ErrLong}, {State, laid(0, -1), api.ErrForm}, {State, laid(0, 1001), api.ErrLong},
		{Request, laid(1, 2, 3, 1, 4, "p", "q", 0, 2), api.ErrForm}, {Request, laid(1, 2, 3, 1, 4, "p", "q", 0, -1), api.ErrForm}, {Request, laid(1, 2, 3, 1, 4, "p", "q", 0, 1, 2), api.ErrForm},
		{Request, laid(1, 2, 3, 0, 0, -1), api.ErrForm}, {Request, laid(1, 2, 3, 0, 0, 0, 1001), api.ErrLong}, {Request, laid(1, 2, 3, 1001), api.ErrLong},
		{Msg, laid(1, 2, 3, 4, 5, 6, 7, 8, 9, 10, 11, 12, 13, 14, -1), api.ErrForm}, {Msg, laid(1, 2, 3, 4, 5, 6, 7, 8, 9, 10, 11, 12, 13, 14, 1001), api.ErrLong},
	} {
		_, end, e := reading(reflect.ValueOf(c.read), c.b, 0)
		same(t, fmt.Sprint("a wrong one ", i), []any{end, e}, []any{0, c.e})
	}
}

func TestLongLists(t *testing.T) {
	s := api.State{Sessions: make([]int, api.MaxLog)}
	b := PutState(nil, s)
	_, end, e := State(b, 0)
	same(t, "a list of MaxLog", []any{end, e}, []any{len(b), api.OK})
	s.Sessions = append(s.Sessions, 1)
	_, end, e = State(PutState(nil, s), 0)
	same(t, "a longer list", []any{end, e}, []any{0, api.ErrLong})
}

// P12.4: what is read, laid again, is the bytes that were read.
func TestTurned(t *testing.T) {
	r := rand.New(rand.NewSource(1))
	for _, k := range kinds() {
		b := k.put.Call([]reflect.Value{reflect.ValueOf([]byte{}), k.x})[0].Bytes()
		for range 3000 {
			c := bytes.Clone(b)
			for range 1 + r.Intn(2) {
				c[r.Intn(len(c))] = byte(r.Intn(256) >> r.Intn(8))
			}
			x, end, e := reading(k.read, c, 0)
			if e != api.OK {
				continue
			}
			if back := k.put.Call([]reflect.Value{reflect.ValueOf([]byte{}), reflect.ValueOf(x)})[0].Bytes(); !bytes.Equal(back, c[:end]) {
				t.Fatalf("%x is read, and laid as %x", c[:end], back)
			}
		}
	}
}
