package chain

import (
	"nore/api"
	"nore/chart"
)

// Check returns the part, the index in it and the error of a case.
func Check(c api.CnCase) (part, at int, e api.Errno) {
	parts := [...]func(api.CnCase) (int, api.Errno){checkChain, checkShots, checkRows, checkShip, checkDay, checkWeathers}
	for i, check := range parts {
		if at, e := check(c); e != api.OK {
			return i + 1, at, e
		}
	}
	return 0, 0, api.OK
}

// firstError returns the index and the error of the first element with one.
func firstError[T any](l []T, check func(T) api.Errno) (int, api.Errno) {
	for i, x := range l {
		if e := check(x); e != api.OK {
			return i, e
		}
	}
	return 0, api.OK
}

// checkChain returns the error of what is not in shots or rows.
func checkChain(c api.CnCase) (int, api.Errno) {
	x := c.Chain
	switch {
	case !within(1, api.MaxCnShots, len(x.Shots)) || !within(1, api.MaxCnRows, len(x.Rows)):
		return 0, api.ErrLong
	case !within(1, api.MaxCnLong, x.Long) || !within(0, api.MaxCnHeavy, x.Heavy) || !within(0, api.MaxCnErr, x.Err):
		return 0, api.ErrRange
	case !within(0, api.MaxCnHold, x.Hold.Lo, x.Hold.Hi):
		return 0, api.ErrRange
	case backward(x.Hold):
		return 0, api.ErrArg
	}
	return 0, api.OK
}

// checkShots returns the first shot with an error.
func checkShots(c api.CnCase) (int, api.Errno) {
	names := map[string]bool{}
	return firstError(c.Chain.Shots, func(s api.CnShot) api.Errno {
		if !chart.Name(s.Name) {
			return api.ErrForm
		}
		if names[s.Name] {
			return api.ErrTwice
		}
		names[s.Name] = true
		return checkShot(s)
	})
}

func checkShot(s api.CnShot) api.Errno {
	switch {
	case !within(1, api.MaxCnLinks, s.Links) || !within(0, api.MaxDay, s.Set):
		return api.ErrRange
	case !within(1, api.MaxCnThick, s.New.Lo, s.New.Hi) || !within(0, api.MaxCnWear, s.Wear.Lo, s.Wear.Hi):
		return api.ErrRange
	case backward(s.New, s.Wear):
		return api.ErrArg
	case len(s.Gauges) > api.MaxCnGauges:
		return api.ErrLong
	}
	return checkGauges(s)
}

func checkGauges(s api.CnShot) api.Errno {
	before := s.Set
	_, e := firstError(s.Gauges, func(g api.CnGauge) api.Errno {
		if !within(s.Set, api.MaxDay, g.Day) || !within(0, api.MaxCnThick, g.Shown) {
			return api.ErrRange
		}
		if g.Day < before {
			return api.ErrArg
		}
		before = g.Day
		return api.OK
	})
	return e
}

// checkRows returns the first row with an error.
func checkRows(c api.CnCase) (int, api.Errno) {
	var before api.CnRow
	return firstError(c.Chain.Rows, func(r api.CnRow) api.Errno {
		if !within(1, api.MaxCnScope, r.Scope) || !within(1, api.All, r.Holds) {
			return api.ErrRange
		}
		if r.Scope <= before.Scope || r.Holds <= before.Holds {
			return api.ErrArg
		}
		before = r
		return api.OK
	})
}

func checkShip(c api.CnCase) (int, api.Errno) {
	s := c.Ship
	if !within(0, api.MaxCnFactor, s.Wind, s.Current, s.Swell) || !within(0, api.MaxCnYaw, s.Yaw) {
		return 0, api.ErrRange
	}
	return 0, api.OK
}

func checkDay(c api.CnCase) (int, api.Errno) {
	if !within(0, api.MaxDay, c.Day) {
		return 0, api.ErrRange
	}
	for _, s := range c.Chain.Shots {
		if c.Day < s.Set {
			return 0, api.ErrArg
		}
	}
	return 0, api.OK
}

// checkWeathers returns the first weather with an error.
func checkWeathers(c api.CnCase) (int, api.Errno) {
	if !within(1, api.MaxCnWeathers, len(c.Weathers)) {
		return 0, api.ErrLong
	}
	return firstError(c.Weathers, checkWeather)
}

func checkWeather(w api.CnWeather) api.Errno {
	switch {
	case !within(1, api.MaxCnDepth, w.Depth.Lo, w.Depth.Hi) || !within(0, api.MaxCnWind, w.Wind.Lo, w.Wind.Hi):
		return api.ErrRange
	case !within(0, api.MaxCnCurrent, w.Current.Lo, w.Current.Hi) || !within(0, api.MaxCnSwell, w.Swell.Lo, w.Swell.Hi):
		return api.ErrRange
	case backward(w.Depth, w.Wind, w.Current, w.Swell):
		return api.ErrArg
	}
	return api.OK
}

// backward reports whether a Lo is above its Hi.
func backward(spans ...api.Span) bool {
	for _, s := range spans {
		if s.Lo > s.Hi {
			return true
		}
	}
	return false
}

// within reports whether all numbers are from lo to hi.
func within(lo, hi int, numbers ...int) bool {
	for _, n := range numbers {
		if n < lo || n > hi {
			return false
		}
	}
	return true
}
