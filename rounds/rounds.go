// Package rounds: what goes round till nothing changes any more.
package rounds

// State can tell whether another one is the same.
type State[S any] interface {
	Same(other S) bool
}

// Settle takes step after step from a state, until one changes nothing, and answers what it came to. The steps must come to such a state, as those do that only ever add, of what there is.
func Settle[S State[S]](state S, step func(S) S) S {
	for {
		next := step(state)
		if next.Same(state) {
			return next
		}
		state = next
	}
}
