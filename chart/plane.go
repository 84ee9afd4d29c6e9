package chart

import (
	"iter"

	"nore/api"
)

// checkBox returns ErrRange if an end of a box is not from -far to far, and ErrArg if it is no box.
func checkBox(b api.CtBox, far int) api.Errno {
	if !within(-far, far, b.X.Lo, b.X.Hi, b.Y.Lo, b.Y.Hi) {
		return api.ErrRange
	}
	if b != (api.CtBox{X: fitted(b.X), Y: fitted(b.Y)}) {
		return api.ErrArg
	}
	return api.OK
}

// fitted returns a span from the same Lo that is one of a box: its Hi is as near as can be.
func fitted(s api.Span) api.Span {
	return api.Span{Lo: s.Lo, Hi: min(max(s.Lo, s.Hi), s.Lo+api.MaxCtWide)}
}

// size returns how many numbers a span of a box has.
func size(s api.Span) int { return s.Hi - s.Lo + 1 }

// places yields all places, or vectors, of a box: the lower X first, of the same X the lower Y.
func places(b api.CtBox) iter.Seq[api.Point] {
	return func(yield func(api.Point) bool) {
		for x := range size(b.X) {
			for y := range size(b.Y) {
				if !yield(api.Point{X: b.X.Lo + x, Y: b.Y.Lo + y}) {
					return
				}
			}
		}
	}
}

// vectorTo returns the vector from a place to another one.
func vectorTo(from, to api.Point) api.Point {
	return api.Point{X: to.X - from.X, Y: to.Y - from.Y}
}

// leftOf returns a number above 0 if v is to the left of along, and one below 0 if it is to the right.
func leftOf(along, v api.Point) int { return along.X*v.Y - along.Y*v.X }

// ahead returns a number above 0 if v leads forward, seen along another vector, and one below 0 if it leads back.
func ahead(along, v api.Point) int { return along.X*v.X + along.Y*v.Y }

// square returns the square of the length of a vector.
func square(v api.Point) int { return ahead(v, v) }

// ends are all numbers from lo to hi; there are none if lo is above hi.
type ends[T ~int | ~int64] struct{ lo, hi T }

// cut leaves just the numbers that, times the factor, are at most limit.
func (e *ends[T]) cut(factor, limit T) {
	switch {
	case factor > 0:
		e.hi = min(e.hi, roundedDown(limit, factor))
	case factor < 0:
		e.lo = max(e.lo, -roundedDown(limit, -factor))
	case limit < 0:
		e.hi = e.lo - 1
	}
}

// count returns how many numbers there are.
func (e *ends[T]) count() T { return max(0, e.hi-e.lo+1) }

// roundedDown returns a divided by b, which is above 0, rounded down.
func roundedDown[T ~int | ~int64](a, b T) T {
	q := a / b
	if a%b < 0 {
		q--
	}
	return q
}
