package fix

import (
	"nore/api"
	"nore/chart"
)

// Check returns the part, the index in it and the error of a fix.
func Check(f api.FxFix) (part, at int, e api.Errno) {
	if _, _, e := chart.Check(f.Chart); e != api.OK {
		return 1, 0, e
	}
	if !within(0, api.MaxDay, f.Day) || !within(1, api.MaxFxStep, f.Step) || !within(0, api.MaxFxHalf, f.Half) {
		return 2, 0, api.ErrRange
	}
	if at, e := checkInstruments(f.Instruments); e != api.OK {
		return 3, at, e
	}
	if at, e := checkAreas(f.Areas); e != api.OK {
		return 4, at, e
	}
	return 0, 0, api.OK
}

// CheckSights returns the index and the error of the first sight with one.
func CheckSights(f api.FxFix, l []api.FxSight) (at int, e api.Errno) {
	if _, _, e := Check(f); e != api.OK {
		return 0, e
	}
	if len(l) > api.MaxFxSights {
		return 0, api.ErrLong
	}
	v := newView(f)
	return firstError(l, func(s api.FxSight) api.Errno {
		if !within(0, len(f.Instruments)-1, s.Instrument) {
			return api.ErrNone
		}
		return v.tool(s.Instrument).check(s)
	})
}

// firstError returns the index and the error of the first element with one.
func firstError[T any](l []T, check func(T) api.Errno) (int, api.Errno) {
	for i, x := range l {
		if e := check(x); e != api.OK {
			return i, e
		}
	}
	return 0, api.OK
}

// checkInstruments returns the first instrument with an error.
func checkInstruments(l []api.FxInstrument) (int, api.Errno) {
	if !within(1, api.MaxFxInstruments, len(l)) {
		return 0, api.ErrLong
	}
	names := map[string]bool{}
	return firstError(l, func(i api.FxInstrument) api.Errno {
		if !chart.Name(i.Name) {
			return api.ErrForm
		}
		if names[i.Name] {
			return api.ErrTwice
		}
		names[i.Name] = true
		return checkOff(i)
	})
}

func checkOff(i api.FxInstrument) api.Errno {
	most := api.MaxFxOff
	if i.Lead {
		most = api.MaxFxLead
	}
	if !within(-most, most, i.Off.Lo, i.Off.Hi) {
		return api.ErrRange
	}
	if i.Off.Lo > i.Off.Hi {
		return api.ErrArg
	}
	return api.OK
}

// checkAreas returns the first area with an error.
func checkAreas(l []api.FxArea) (int, api.Errno) {
	if len(l) > api.MaxFxAreas {
		return 0, api.ErrLong
	}
	return firstError(l, checkArea)
}

func checkArea(a api.FxArea) api.Errno {
	switch {
	case !within(-api.MaxFar, api.MaxFar, a.X.Lo, a.X.Hi, a.Y.Lo, a.Y.Hi):
		return api.ErrRange
	case !within(0, api.MaxFxDepth, a.Depth.Lo, a.Depth.Hi):
		return api.ErrRange
	case !within(1, api.MaxFxGround, a.Ground):
		return api.ErrRange
	case a.X.Lo > a.X.Hi || a.Y.Lo > a.Y.Hi || a.Depth.Lo > a.Depth.Hi:
		return api.ErrArg
	}
	return api.OK
}

// within reports whether all numbers are from lo to hi.
func within(lo, hi int, numbers ...int) bool {
	for _, n := range numbers {
		if n < lo || n > hi {
			return false
		}
	}
	return true
}
