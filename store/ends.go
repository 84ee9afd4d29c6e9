package store

import "nore/api"

// ends are the least and the greatest number that was met.
type ends struct {
	api.Span
	met bool
}

// meet widens the span, so that it contains a number.
func (x *ends) meet(n int) {
	if !x.met {
		*x = ends{Span: api.Span{Lo: n, Hi: n}, met: true}
		return
	}
	x.Lo, x.Hi = min(x.Lo, n), max(x.Hi, n)
}
