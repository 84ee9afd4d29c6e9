package watch

import (
	"nore/api"
	"nore/chart"
)

// Check returns the part, the index in it and the error of a case.
func Check(c api.WaCase) (part, at int, e api.Errno) {
	parts := [...]func(api.WaCase) (int, api.Errno){checkNumbers, checkSlots, checkMen}
	for i, check := range parts {
		if at, e := check(c); e != api.OK {
			return i + 1, at, e
		}
	}
	return 0, 0, api.OK
}

// checkNumbers returns the error of how many men and slots there are, and of how long a man stands and rests.
func checkNumbers(c api.WaCase) (int, api.Errno) {
	if !within(1, api.MaxWaMen, len(c.Men)) || !within(1, api.MaxWaSlots, len(c.Slots)) {
		return 0, api.ErrLong
	}
	if !within(1, api.MaxWaRun, c.Run) || !within(1, api.MaxWaRest, c.Rest) {
		return 0, api.ErrRange
	}
	return 0, api.OK
}

// checkSlots returns the first slot with an error.
func checkSlots(c api.WaCase) (int, api.Errno) {
	for i, s := range c.Slots {
		if !within(1, api.MaxWaSize, s.Men) || !within(0, api.MaxWaKind, s.Least) {
			return i, api.ErrRange
		}
	}
	return 0, api.OK
}

// checkMen returns the first man with an error.
func checkMen(c api.WaCase) (int, api.Errno) {
	names := map[string]bool{}
	for i, m := range c.Men {
		if e := checkMan(m, names, len(c.Slots)); e != api.OK {
			return i, e
		}
		names[m.Name] = true
	}
	return 0, api.OK
}

// checkMan returns the error of a man behind others with these names, if there are so many slots.
func checkMan(m api.WaMan, names map[string]bool, slots int) api.Errno {
	switch {
	case !chart.Name(m.Name):
		return api.ErrForm
	case names[m.Name]:
		return api.ErrTwice
	case !within(0, api.MaxWaKind, m.Kind):
		return api.ErrRange
	}
	return checkIndices(m.Not, slots)
}

// checkRota returns the error of a rota of so many men.
func checkRota(rota [][]int, men int) api.Errno {
	if len(rota) > api.MaxWaRows {
		return api.ErrLong
	}
	for _, group := range rota {
		if e := checkIndices(group, men); e != api.OK {
			return e
		}
	}
	return api.OK
}

// checkIndices returns the error of the first number that is no index of so many, or is not above the one before it.
func checkIndices(l []int, count int) api.Errno {
	before := -1
	for _, n := range l {
		if !within(0, count-1, n) {
			return api.ErrNone
		}
		if n <= before {
			return api.ErrArg
		}
		before = n
	}
	return api.OK
}

// examine returns the crew of a case, or the first error: its own, and then that of a rota.
func examine(x api.WaCase, rota [][]int) (*crew, api.Errno) {
	if _, _, e := Check(x); e != api.OK {
		return nil, e
	}
	if e := checkRota(rota, len(x.Men)); e != api.OK {
		return nil, e
	}
	return newCrew(x), api.OK
}

// behindGood returns the crew of a case, and the state behind a rota; ErrDown if the rota is not good.
func behindGood(x api.WaCase, rota [][]int) (*crew, state, api.Errno) {
	c, e := examine(x, rota)
	if e != api.OK {
		return nil, state{}, e
	}
	s, at, _, _ := c.walk(rota)
	if at >= 0 {
		return nil, state{}, api.ErrDown
	}
	return c, s, api.OK
}

// within reports whether all numbers are from lo to hi.
func within(lo, hi int, numbers ...int) bool {
	for _, n := range numbers {
		if n < lo || n > hi {
			return false
		}
	}
	return true
}
