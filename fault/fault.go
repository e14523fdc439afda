// Package fault is how what is deep in a call gives up: it panics with an error's number, and the face of the call makes an answer of it.
package fault

import (
	"witan/api"
)

// fault is the program's own panic; any other is none of this package's.
type fault api.Errno

// Give gives up with e; with OK it does nothing.
func Give(e api.Errno) {
	if e != api.OK {
		panic(fault(e))
	}
}

// Try does do, and tells with which error it gave up.
func Try(do func()) (e api.Errno) {
	defer func() {
		switch p := recover().(type) {
		case nil:
		case fault:
			e = api.Errno(p)
		default:
			panic(p)
		}
	}()
	do()
	return api.OK
}
