package air

import (
	"nore/api"
	"nore/chart"
)

// Check returns the part, the index in it and the error of a station.
func Check(s api.AiStation) (part, at int, e api.Errno) {
	parts := [...]func(api.AiStation) (int, api.Errno){checkNumbers, checkGrades}
	for i, check := range parts {
		if at, e := check(s); e != api.OK {
			return i + 1, at, e
		}
	}
	return 0, 0, api.OK
}

// CheckNight returns the index of a report, and the error of a night with reports.
func CheckNight(s api.AiStation, n api.AiNight, l []api.AiReport) (at int, e api.Errno) {
	if _, _, e := Check(s); e != api.OK {
		return 0, e
	}
	if !within(0, len(s.Grades)-1, n.Grade) {
		return 0, api.ErrNone
	}
	if !within(-api.MaxFar, api.MaxFar, n.At.X, n.At.Y) || !within(0, api.CtCompass-1, n.Wind) || !within(1, api.CtCompass, n.Winds) {
		return 0, api.ErrRange
	}
	if len(l) > api.MaxAiReports {
		return 0, api.ErrLong
	}
	return firstError(l, func(r api.AiReport) api.Errno {
		if !within(-api.MaxFar, api.MaxFar, r.At.X, r.At.Y) {
			return api.ErrRange
		}
		return api.OK
	})
}

// firstError returns the index and the error of the first element with one.
func firstError[T any](l []T, check func(T) api.Errno) (int, api.Errno) {
	for i, x := range l {
		if e := check(x); e != api.OK {
			return i, e
		}
	}
	return 0, api.OK
}

// checkNumbers returns the error of how many grades there are, of how loud the horn and how clear the air can be.
func checkNumbers(s api.AiStation) (int, api.Errno) {
	if !within(1, api.MaxAiGrades, len(s.Grades)) {
		return 0, api.ErrLong
	}
	if !within(1, api.MaxAiLoud, s.Loud.Lo, s.Loud.Hi) || !within(1, api.MaxAiClear, s.Clear.Lo, s.Clear.Hi) {
		return 0, api.ErrRange
	}
	if s.Loud.Lo > s.Loud.Hi || s.Clear.Lo > s.Clear.Hi {
		return 0, api.ErrArg
	}
	return 0, api.OK
}

// checkGrades returns the first grade with an error.
func checkGrades(s api.AiStation) (int, api.Errno) {
	names := map[string]bool{}
	return firstError(s.Grades, func(g api.AiGrade) api.Errno {
		if !chart.Name(g.Name) {
			return api.ErrForm
		}
		if names[g.Name] {
			return api.ErrTwice
		}
		names[g.Name] = true
		if !within(1, api.MaxAiCandles, g.Candles.Lo, g.Candles.Hi) || !within(0, api.MaxAiOil, g.Oil) {
			return api.ErrRange
		}
		if g.Candles.Lo > g.Candles.Hi || g.Candles.Hi > g.Candles.Lo+api.MaxAiWide {
			return api.ErrArg
		}
		return api.OK
	})
}

// within reports whether all numbers are from lo to hi.
func within(lo, hi int, numbers ...int) bool {
	for _, n := range numbers {
		if n < lo || n > hi {
			return false
		}
	}
	return true
}
