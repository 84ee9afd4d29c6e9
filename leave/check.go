package leave

import (
	"nore/api"
	"nore/chart"
)

// Check returns the part, the index in it and the error of a crew.
func Check(c api.LvCrew) (part, at int, e api.Errno) {
	parts := [...]func(api.LvCrew) (int, api.Errno){checkNumbers, checkRanks, checkMen}
	for i, check := range parts {
		if at, e := check(c); e != api.OK {
			return i + 1, at, e
		}
	}
	return 0, 0, api.OK
}

// checkNumbers returns the error of how much there is of all.
func checkNumbers(c api.LvCrew) (int, api.Errno) {
	switch {
	case !within(1, api.MaxLvRanks, len(c.Ranks)), !within(1, api.MaxLvMen, len(c.Men)):
		return 0, api.ErrLong
	case !within(0, api.MaxLvMen, c.Least):
		return 0, api.ErrRange
	}
	return 0, api.OK
}

// checkRanks returns the first rank with an error.
func checkRanks(c api.LvCrew) (int, api.Errno) {
	return checkNamed(c.Ranks, func(r api.LvRank) (string, api.Errno) {
		if !within(0, api.MaxLvPay, r.Pay) || !within(0, api.All, r.Leave, r.Ill, r.Earn) {
			return r.Name, api.ErrRange
		}
		return r.Name, api.OK
	})
}

// checkMen returns the first man with an error.
func checkMen(c api.LvCrew) (int, api.Errno) {
	return checkNamed(c.Men, func(m api.LvMan) (string, api.Errno) {
		switch {
		case !within(0, len(c.Ranks)-1, m.Rank):
			return m.Name, api.ErrNone
		case !within(-api.MaxLvOwed, api.MaxLvOwed, m.Owed):
			return m.Name, api.ErrRange
		}
		return m.Name, api.OK
	})
}

// checkNamed returns the index and the error of the first thing with one, that of its name before that of its numbers; look returns its name and the error of its numbers.
func checkNamed[T any](l []T, look func(T) (string, api.Errno)) (int, api.Errno) {
	names := map[string]bool{}
	for i, x := range l {
		name, e := look(x)
		switch {
		case !chart.Name(name):
			return i, api.ErrForm
		case names[name]:
			return i, api.ErrTwice
		case e != api.OK:
			return i, e
		}
		names[name] = true
	}
	return 0, api.OK
}

// CheckLog returns the index and the error of the first event that cannot be.
func CheckLog(c api.LvCrew, l []api.LvEvent) (at int, e api.Errno) {
	if _, _, e := Check(c); e != api.OK {
		return 0, e
	}
	if len(l) > api.MaxLvEvents {
		return 0, api.ErrLong
	}
	at, e = checkEvents(c, l)
	if e != api.OK {
		// An event before this one decides if it cannot happen.
		l = l[:at]
	}
	if i, refused := tryPlay(c, l); refused != api.OK {
		return i, refused
	}
	return at, e
}

// checkEvents returns the first event with an error that shows without what happened before.
func checkEvents(c api.LvCrew, l []api.LvEvent) (int, api.Errno) {
	day := 0
	for i, event := range l {
		if e := checkEvent(c, event, day); e != api.OK {
			return i, e
		}
		day = event.Day
	}
	return 0, api.OK
}

// checkEvent returns the error of an event that may not be before a day.
func checkEvent(c api.LvCrew, event api.LvEvent, day int) api.Errno {
	swap := event.Kind == api.LvSwap
	switch {
	case !within(api.LvGo, api.LvSwap, event.Kind), !swap && event.Other != 0, swap && event.Man == event.Other:
		return api.ErrArg
	case !within(0, len(c.Men)-1, event.Man, event.Other):
		return api.ErrNone
	case !within(day, api.MaxDay, event.Day):
		return api.ErrRange
	}
	return api.OK
}

// CheckPlan returns the error of a plan for a crew.
func CheckPlan(c api.LvCrew, p api.LvPlan) api.Errno {
	if _, _, e := Check(c); e != api.OK {
		return e
	}
	if !within(1, api.MaxLvTurns, p.Turns) || !within(1, api.MaxLvLength, p.Days) || !within(1, api.MaxLvAway, p.Away) {
		return api.ErrRange
	}
	return api.OK
}

// examine returns the error of a log, or of days that are asked for.
func examine(c api.LvCrew, l []api.LvEvent, days ...int) api.Errno {
	if _, e := CheckLog(c, l); e != api.OK {
		return e
	}
	if !within(0, api.MaxDay, days...) {
		return api.ErrRange
	}
	return api.OK
}

// examinePlan returns a crew with a plan, or the first error.
func examinePlan(c api.LvCrew, p api.LvPlan) (*rota, api.Errno) {
	if e := CheckPlan(c, p); e != api.OK {
		return nil, e
	}
	return &rota{LvCrew: c, LvPlan: p}, api.OK
}

// within reports whether all numbers are from lo to hi.
func within(lo, hi int, numbers ...int) bool {
	for _, n := range numbers {
		if n < lo || n > hi {
			return false
		}
	}
	return true
}
