package lamp

import (
	"iter"

	"nore/api"
)

// part is a part of a character: a flash or an eclipse.
type part interface {
	lasts() api.Span
}

type (
	flash   struct{ api.LpPhase }
	eclipse struct{ api.LpPhase }
)

func (f flash) lasts() api.Span { return f.Flash }

func (e eclipse) lasts() api.Span { return e.Dark }

// kindOf returns what is seen of a light in a part.
func kindOf(p part) kind {
	switch p.(type) {
	case flash:
		return lit
	default:
		return dark
	}
}

// character is the parts of a light in their order; behind the last one comes the first.
type character []part

func characterOf(l api.LpLight) character {
	var c character
	for _, p := range l.Phases {
		c = append(c, flash{p}, eclipse{p})
	}
	return c
}

// state is where in its character a light can be: in a part that has lasted for so many seconds, and whether its begin was seen.
type state struct {
	part, lasted int
	begun        bool
}

// first returns all states ahead of the first second, at which this is seen.
func (c character) first(seen kind) map[state]bool {
	states := map[state]bool{}
	for i, p := range c {
		if kindOf(p) == seen {
			states[state{part: i}] = true
		}
	}
	return states
}

// after returns the state after a second more, at which this is seen, and whether there is one.
func (c character) after(x state, seen kind) (state, bool) {
	lasts := c[x.part].lasts()
	if kindOf(c[x.part]) == seen {
		x.lasted++
		return x, x.lasted <= lasts.Hi
	}
	if x.begun && x.lasted < lasts.Lo {
		return x, false
	}
	return state{part: (x.part + 1) % len(c), lasted: 1, begun: true}, true
}

// keeps returns how many of so many seconds keep the character, from the first one on. If it is not all of them, this is the second at which the light fails.
func (c character) keeps(s show, seconds int) int {
	states, next := c.first(s[0]), map[state]bool{}
	for second := range seconds {
		clear(next)
		for x := range states {
			if after, ok := c.after(x, s[second]); ok {
				next[after] = true
			}
		}
		if len(next) == 0 {
			return second
		}
		states, next = next, states
	}
	return seconds
}

// kept yields truths, and how many seconds of the night keep the character in each.
func (v *view) kept(c character, truths iter.Seq2[truth, show]) iter.Seq2[truth, int] {
	return func(yield func(truth, int) bool) {
		for t, s := range truths {
			if !yield(t, c.keeps(s, v.Lamp.Night)) {
				return
			}
		}
	}
}
