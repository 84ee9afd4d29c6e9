package swing

import (
	"nore/api"
	"nore/chart"
)

// Check returns the part and the error of a mooring.
func Check(m api.SgMooring) (part int, e api.Errno) {
	if _, _, e := chart.Check(m.Chart); e != api.OK {
		return 1, e
	}
	if e := checkBox(m.Anchor); e != api.OK {
		return 2, e
	}
	if e := checkRing(m); e != api.OK {
		return 3, e
	}
	return 0, api.OK
}

// CheckLooks returns the index and the error of the first look with one.
func CheckLooks(m api.SgMooring, l []api.SgLook) (at int, e api.Errno) {
	if _, e := Check(m); e != api.OK {
		return 0, e
	}
	if len(l) > api.MaxSgLooks {
		return 0, api.ErrLong
	}
	before := -1
	return firstError(l, func(x api.SgLook) api.Errno {
		if e := checkLook(x); e != api.OK {
			return e
		}
		if x.Minute <= before {
			return api.ErrArg
		}
		before = x.Minute
		return api.OK
	})
}

// firstError returns the index and the error of the first element with one.
func firstError[T any](l []T, check func(T) api.Errno) (int, api.Errno) {
	for i, x := range l {
		if e := check(x); e != api.OK {
			return i, e
		}
	}
	return 0, api.OK
}

// checkLook returns the error of a look, but for the look before it.
func checkLook(x api.SgLook) api.Errno {
	if !within(0, api.MaxSgMinute, x.Minute) || !within(0, api.CtCompass-1, x.Point) || !within(1, api.CtCompass, x.Points) {
		return api.ErrRange
	}
	return checkBox(x.At)
}

// checkRing returns the error of how far from the anchor, and from the charted place, she may be.
func checkRing(m api.SgMooring) api.Errno {
	if !within(0, api.MaxSgRing, m.Ring.Lo, m.Ring.Hi) || !within(0, api.MaxSgNear, m.Near) {
		return api.ErrRange
	}
	if m.Ring.Lo > m.Ring.Hi {
		return api.ErrArg
	}
	return api.OK
}

// checkBox returns the error of a box of swinging.
func checkBox(b api.CtBox) api.Errno {
	if !within(-api.MaxSgFar, api.MaxSgFar, b.X.Lo, b.X.Hi, b.Y.Lo, b.Y.Hi) {
		return api.ErrRange
	}
	if !isSide(b.X) || !isSide(b.Y) {
		return api.ErrArg
	}
	return api.OK
}

// isSide reports whether a box of swinging can have this span.
func isSide(s api.Span) bool { return within(s.Lo, s.Lo+api.MaxSgWide, s.Hi) }

// within reports whether all numbers are from lo to hi.
func within(lo, hi int, numbers ...int) bool {
	for _, n := range numbers {
		if n < lo || n > hi {
			return false
		}
	}
	return true
}
