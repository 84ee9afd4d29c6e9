package lamp

import (
	"nore/api"
	"nore/chart"
)

// Check returns the part, the index in it and the error of a case.
func Check(c api.LpCase) (part, at int, e api.Errno) {
	parts := [...]func(api.LpCase) (int, api.Errno){checkDrum, checkLit, checkTurning, checkWindings, checkSights}
	for i, check := range parts {
		if at, e := check(c); e != api.OK {
			return i + 1, at, e
		}
	}
	return 0, 0, api.OK
}

// Lights returns the index and the error of the first light with one.
func Lights(l []api.LpLight) (at int, e api.Errno) {
	if !within(1, api.MaxLpLights, len(l)) {
		return 0, api.ErrLong
	}
	names := map[string]bool{}
	return firstError(l, func(x api.LpLight) api.Errno {
		if !chart.Name(x.Name) {
			return api.ErrForm
		}
		if names[x.Name] {
			return api.ErrTwice
		}
		names[x.Name] = true
		return checkPhases(x.Phases)
	})
}

// firstError returns the index and the error of the first element with one.
func firstError[T any](l []T, check func(T) api.Errno) (int, api.Errno) {
	for i, x := range l {
		if e := check(x); e != api.OK {
			return i, e
		}
	}
	return 0, api.OK
}

// checkDrum returns the error of the numbers of a lamp, and of how many spans of its drum are lit.
func checkDrum(c api.LpCase) (int, api.Errno) {
	x := c.Lamp
	if !within(2, api.MaxLpDrum, x.Drum) || !within(1, api.MaxLpNight, x.Slow, x.Night) {
		return 0, api.ErrRange
	}
	if len(x.Lit) > api.MaxLpSectors {
		return 0, api.ErrLong
	}
	return 0, api.OK
}

// checkLit returns the first of the spans that are lit with an error.
func checkLit(c api.LpCase) (int, api.Errno) {
	before := -1
	return firstError(c.Lamp.Lit, func(s api.Span) api.Errno {
		if !within(0, c.Lamp.Drum-1, s.Lo, s.Hi) {
			return api.ErrRange
		}
		if backward(s) || s.Lo <= before {
			return api.ErrArg
		}
		before = s.Hi
		return api.OK
	})
}

// checkTurning returns the error of where the drum starts, and of how fast it turns.
func checkTurning(c api.LpCase) (int, api.Errno) {
	start, speed := c.Lamp.Start, c.Lamp.Speed
	if !within(0, c.Lamp.Drum-1, start.Lo, start.Hi) || !within(1, api.MaxLpSpeed, speed.Lo, speed.Hi) {
		return 0, api.ErrRange
	}
	if backward(start, speed) || start.Hi > start.Lo+api.MaxLpStart || speed.Hi > speed.Lo+api.MaxLpSpeeds {
		return 0, api.ErrArg
	}
	return 0, api.OK
}

// checkWindings returns the first winding with an error.
func checkWindings(c api.LpCase) (int, api.Errno) {
	if len(c.Windings) > api.MaxLpWindings {
		return 0, api.ErrLong
	}
	before := 0
	return firstError(c.Windings, func(second int) api.Errno {
		if !within(1, c.Lamp.Night-1, second) {
			return api.ErrRange
		}
		if second <= before {
			return api.ErrArg
		}
		before = second
		return api.OK
	})
}

// checkSights returns the first sight with an error.
func checkSights(c api.LpCase) (int, api.Errno) {
	if len(c.Sights) > api.MaxLpSights {
		return 0, api.ErrLong
	}
	return firstError(c.Sights, func(x api.LpSight) api.Errno {
		if !within(0, c.Lamp.Night-1, x.Second) {
			return api.ErrRange
		}
		return api.OK
	})
}

// checkPhases returns the error of the phases of a light: spans that are out of range come before those that are backward, whatever phase they are in.
func checkPhases(l []api.LpPhase) api.Errno {
	if !within(1, api.MaxLpPhases, len(l)) {
		return api.ErrLong
	}
	for _, p := range l {
		if !within(1, api.MaxLpNight, p.Flash.Lo, p.Flash.Hi, p.Dark.Lo, p.Dark.Hi) {
			return api.ErrRange
		}
	}
	for _, p := range l {
		if backward(p.Flash, p.Dark) {
			return api.ErrArg
		}
	}
	return api.OK
}

// backward reports whether a Lo is above its Hi.
func backward(spans ...api.Span) bool {
	for _, s := range spans {
		if s.Lo > s.Hi {
			return true
		}
	}
	return false
}

// within reports whether all numbers are from lo to hi.
func within(lo, hi int, numbers ...int) bool {
	for _, n := range numbers {
		if n < lo || n > hi {
			return false
		}
	}
	return true
}
