package tender

import (
	"nore/api"
	"nore/chart"
)

// Check returns the part, the index in it and the error of a season.
func Check(s api.TeSeason) (part, at int, e api.Errno) {
	parts := [...]func(api.TeSeason) (int, api.Errno){checkNumbers, checkNeeds, checkPossible}
	for i, check := range parts {
		if at, e := check(s); e != api.OK {
			return i + 1, at, e
		}
	}
	return 0, 0, api.OK
}

// checkNumbers returns the error of the numbers of a season.
func checkNumbers(s api.TeSeason) (int, api.Errno) {
	if !within(1, api.MaxTeDays, s.Days) || !within(1, api.MaxTeLoad, s.Load) || !within(0, api.MaxTeOrders, s.Fail) || !within(1, api.MaxTeOrders, s.Row) {
		return 0, api.ErrRange
	}
	return 0, api.OK
}

// checkNeeds returns the first need with an error.
func checkNeeds(s api.TeSeason) (int, api.Errno) {
	if !within(1, api.MaxTeNeeds, len(s.Needs)) {
		return 0, api.ErrLong
	}
	names := map[string]bool{}
	for i, n := range s.Needs {
		if e := checkNeed(n, names); e != api.OK {
			return i, e
		}
		names[n.Name] = true
	}
	return 0, api.OK
}

// checkNeed returns the error of a need behind others with these names.
func checkNeed(n api.TeNeed, names map[string]bool) api.Errno {
	switch {
	case !chart.Name(n.Name):
		return api.ErrForm
	case names[n.Name]:
		return api.ErrTwice
	case !within(1, api.MaxTeDays, n.Full), !within(0, n.Full, n.First), !within(1, api.MaxTeLoad, n.Weight):
		return api.ErrRange
	}
	return api.OK
}

// checkPossible returns the first possible day with an error.
func checkPossible(s api.TeSeason) (int, api.Errno) {
	if len(s.Possible) > api.MaxTePossible {
		return 0, api.ErrLong
	}
	return checkAscending(s.Possible, s.Days, api.ErrRange)
}

// checkAscending returns the first number with an error: this one if it is not below the end, ErrArg if it is not above the one before it.
func checkAscending(l []int, end int, outside api.Errno) (int, api.Errno) {
	before := -1
	for i, n := range l {
		if !within(0, end-1, n) {
			return i, outside
		}
		if n <= before {
			return i, api.ErrArg
		}
		before = n
	}
	return 0, api.OK
}

// Plan returns the first order with an error, and the error.
func Plan(s api.TeSeason, p []api.TeOrder) (at int, e api.Errno) {
	if _, _, e := Check(s); e != api.OK {
		return 0, e
	}
	if len(p) > api.MaxTeOrders {
		return 0, api.ErrLong
	}
	before := -1
	for i, o := range p {
		if e := checkOrder(s, o, before); e != api.OK {
			return i, e
		}
		before = o.Day
	}
	return 0, api.OK
}

// checkOrder returns the error of an order behind one on the day before, which is -1 if there is none.
func checkOrder(s api.TeSeason, o api.TeOrder, before int) api.Errno {
	switch {
	case !within(0, s.Days-1, o.Day):
		return api.ErrRange
	case o.Day <= before:
		return api.ErrArg
	case len(o.Cargo) == 0:
		return api.ErrLong
	}
	if _, e := checkAscending(o.Cargo, len(s.Needs), api.ErrNone); e != api.OK {
		return e
	}
	if weight(s.Needs, o.Cargo) > s.Load {
		return api.ErrDown
	}
	return api.OK
}

// weight returns how heavy a cargo is.
func weight(needs []api.TeNeed, cargo []int) int {
	sum := 0
	for _, need := range cargo {
		sum += needs[need].Weight
	}
	return sum
}

// examine returns a season with the orders of a plan, or the first error.
func examine(s api.TeSeason, p []api.TeOrder) (*season, api.Errno) {
	if _, e := Plan(s, p); e != api.OK {
		return nil, e
	}
	return &season{s, p}, api.OK
}

// examineFailed returns a season with the orders of a plan, and which of these fail, or the first error.
func examineFailed(s api.TeSeason, p []api.TeOrder, failed []int) (*season, failures, api.Errno) {
	x, e := examine(s, p)
	if e != api.OK {
		return nil, failures{}, e
	}
	if _, e := checkAscending(failed, len(p), api.ErrNone); e != api.OK {
		return nil, failures{}, e
	}
	return x, failures{}.with(failed...), api.OK
}

// within reports whether all numbers are from lo to hi.
func within(lo, hi int, numbers ...int) bool {
	for _, n := range numbers {
		if n < lo || n > hi {
			return false
		}
	}
	return true
}
