package sketch

import (
	"callboard/api"
	"callboard/valid"
)

// Defs returns grown processes, each of which is valid over those before it: pa, pb, ..; all of them quiet, or some.
func Defs(n int, quiet bool, pick func(n int) int) []api.Process {
	var defs []api.Process
	for len(defs) < n {
		name := "p" + string([]byte{byte('a' + len(defs))})
		p := Grow(name, defs, quiet || pick(3) == 0, pick)
		if valid.Check(defs, p) == api.OK {
			defs = append(defs, p)
		}
	}
	return defs
}

// Stirred returns a state of grown processes that was stirred so many times.
func Stirred(n, times int, pick func(n int) int) api.State {
	s := api.State{Defs: Defs(n, false, pick)}
	for range times {
		s = Stir(s, pick)
	}
	return s
}
