package chain

import (
	"iter"

	"nore/api"
)

// view is a case that is looked at, and how thick each shot can be on its Day. Thicknesses are by the names of shots, which stay if these are replaced or the chain is turned; of a shot whose gaugings contradict each other there is none.
type view struct {
	api.CnCase
	can map[string]api.Span
}

func newView(c api.CnCase) *view {
	v := &view{CnCase: c, can: map[string]api.Span{}}
	for _, s := range c.Chain.Shots {
		if can, ok := v.thickness(s, c.Day); ok {
			v.can[s.Name] = can
		}
	}
	return v
}

// with returns the view of the case with another chain of shots.
func (v *view) with(shots []api.CnShot) *view {
	c := v.CnCase
	c.Chain.Shots = shots
	return newView(c)
}

// check returns the error of a case without one of its own, for what is asked of it.
type check func(*view) api.Errno

// examine returns the view of a case, or the first error: its own, and then those of the checks.
func examine(c api.CnCase, checks ...check) (*view, api.Errno) {
	if _, _, e := Check(c); e != api.OK {
		return nil, e
	}
	v := newView(c)
	for _, check := range checks {
		if e := check(v); e != api.OK {
			return nil, e
		}
	}
	return v, api.OK
}

// isShot checks that a number is the index of a shot.
func isShot(n int) check {
	return func(v *view) api.Errno {
		if !within(0, len(v.Chain.Shots)-1, n) {
			return api.ErrNone
		}
		return api.OK
	}
}

// isWeather checks that a number is the index of a weather.
func isWeather(n int) check {
	return func(v *view) api.Errno {
		if !within(0, len(v.Weathers)-1, n) {
			return api.ErrNone
		}
		return api.OK
	}
}

// canBeOut checks that so many links can be out.
func canBeOut(n int) check {
	return func(v *view) api.Errno {
		if !within(1, v.links(), n) {
			return api.ErrRange
		}
		return api.OK
	}
}

// agreed checks that the gaugings of no shot contradict each other.
func agreed(v *view) api.Errno {
	if len(v.can) < len(v.Chain.Shots) {
		return api.ErrZero
	}
	return api.OK
}

// links returns how many links the shots have together.
func (v *view) links() int {
	n := 0
	for _, s := range v.Chain.Shots {
		n += s.Links
	}
	return n
}

// scopes yields the numbers of links out with which the chain holds in all weathers, ascending.
func (v *view) scopes() iter.Seq[int] {
	return func(yield func(out int) bool) {
		var worst []truth
		for weather := range v.Weathers {
			worst = append(worst, v.worst(weather))
		}
	scopes:
		for before := range v.links() {
			for _, t := range worst {
				if why, _ := v.why(t, before+1); why != api.CnHolds {
					continue scopes
				}
			}
			if !yield(before + 1) {
				return
			}
		}
	}
}

// holdsSomehow reports whether the chain holds in all weathers with some number of links out.
func (v *view) holdsSomehow() bool {
	for range v.scopes() {
		return true
	}
	return false
}
