package lamp

import (
	"iter"

	"nore/api"
)

// kind is what is seen of a light at a second.
type kind int

const (
	dark  kind = iota
	lit        // behind an opening of the drum
	kinds      // so many kinds there are
)

// show is how a light is seen, second by second.
type show [api.MaxLpNight]kind

// view is a case that is looked at, and how the light is seen behind each position of the drum.
type view struct {
	api.LpCase
	drum [api.MaxLpDrum]kind
}

func newView(c api.LpCase) *view {
	v := &view{LpCase: c}
	for _, s := range c.Lamp.Lit {
		for position := range numbers(s) {
			v.drum[position] = lit
		}
	}
	return v
}

// check returns the error of what is asked of a case without an error of its own.
type check func(*view) api.Errno

// examine returns the view of a case, or the first error: its own, and then those of the checks.
func examine(c api.LpCase, checks ...check) (*view, api.Errno) {
	if _, _, e := Check(c); e != api.OK {
		return nil, e
	}
	v := newView(c)
	for _, check := range checks {
		if e := check(v); e != api.OK {
			return nil, e
		}
	}
	return v, api.OK
}

// areLights checks lights.
func areLights(l ...api.LpLight) check {
	return func(*view) api.Errno {
		_, e := Lights(l)
		return e
	}
}

// isTruth checks that the case can have a truth.
func isTruth(t api.LpTruth) check {
	return func(v *view) api.Errno {
		if len(t.Speeds) != v.runs() {
			return api.ErrLong
		}
		if !within(v.Lamp.Start.Lo, v.Lamp.Start.Hi, t.Start) || !within(v.Lamp.Speed.Lo, v.Lamp.Speed.Hi, t.Speeds...) {
			return api.ErrRange
		}
		return api.OK
	}
}

// isOfNight checks that a second is one of the night.
func isOfNight(second int) check {
	return func(v *view) api.Errno {
		if !within(0, v.Lamp.Night-1, second) {
			return api.ErrRange
		}
		return api.OK
	}
}

// runs returns how many runs the night has.
func (v *view) runs() int { return len(v.Windings) + 1 }

// shown returns how the light is seen in a truth.
func (v *view) shown(t truth) show {
	var s show
	position, run, begin := t.start, 0, 0
	for second := range v.Lamp.Night {
		if run < len(v.Windings) && v.Windings[run] == second {
			run++
			begin = second
		}
		s[second] = v.drum[position]
		slower := (second - begin) / v.Lamp.Slow
		position = (position + max(0, t.speeds[run]-slower)) % v.Lamp.Drum
	}
	return s
}

// stretches yields the stretches of the night in which the light is lit.
func (v *view) stretches(s show) iter.Seq[api.Span] {
	return func(yield func(api.Span) bool) {
		begin := 0
		for second := range v.Lamp.Night {
			if s[second] == dark {
				begin = second + 1
				continue
			}
			if last := second == v.Lamp.Night-1 || s[second+1] == dark; last && !yield(api.Span{Lo: begin, Hi: second}) {
				return
			}
		}
	}
}

// numbers yields the numbers of a span.
func numbers(s api.Span) iter.Seq[int] {
	return func(yield func(int) bool) {
		for n := s.Lo; n <= s.Hi; n++ {
			if !yield(n) {
				return
			}
		}
	}
}
