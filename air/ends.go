package air

import "nore/api"

// ends are the least and the greatest of the numbers that were met, if some were.
type ends struct {
	api.Span
	some bool
}

func (x *ends) meet(n int) {
	if !x.some {
		x.Span, x.some = api.Span{Lo: n, Hi: n}, true
	}
	x.Lo, x.Hi = min(x.Lo, n), max(x.Hi, n)
}

// errno returns ErrDown if no number was met.
func (x *ends) errno() api.Errno {
	if x.some {
		return api.OK
	}
	return api.ErrDown
}
