// Package change: a right state is changed by a function, in memory of its own; letters come to lie in it, and are shed.
package change

import (
	"mailcoach/api"
	"mailcoach/ask"
	"mailcoach/state"
)

// Gone stands for the queue of a taker that is gone.
const Gone = -1

// Told: a right state, when do has changed it, and what do tells; or the error with which do was left.
func Told(p api.Plan, s api.State, do func(t *api.State) int) (api.State, int, api.Errno) {
	var t api.State
	n := 0
	e := ask.Tried(func() {
		ask.OK(state.Check(p, s))
		t = copied(s)
		n = do(&t)
	})
	if e != api.OK {
		// What was changed by then is none of the answer's.
		return api.State{}, 0, e
	}
	return t, n, api.OK
}

// Made: as Told, of a change that tells nothing.
func Made(p api.Plan, s api.State, do func(t *api.State)) (api.State, api.Errno) {
	t, _, e := Told(p, s, func(t *api.State) int {
		do(t)
		return 0
	})
	return t, e
}

// copied: that state in new memory, each of its lists by itself.
func copied(s api.State) api.State {
	ready := make([][]api.Item, len(s.Ready))
	for q, l := range s.Ready {
		ready[q] = copiedList(l)
	}
	s.Ready, s.Outs, s.Takers = ready, copiedList(s.Outs), copiedList(s.Takers)
	return s
}

// copiedList: the things of l in new memory, an empty list's too.
func copiedList[T any](l []T) []T {
	return append([]T(nil), l...)
}
