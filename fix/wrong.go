package fix

import (
	"slices"

	"nore/api"
)

// Wrong returns the fewest marks and instruments that can be wrong.
func Wrong(f api.FxFix, l []api.FxSight) (marks, instruments []int, e api.Errno) {
	v, e := examine(f, l)
	if e != api.OK {
		return nil, nil, e
	}
	for _, thing := range v.fewestWrong(l) {
		if thing < len(f.Chart.Marks) {
			marks = append(marks, thing)
		} else {
			instruments = append(instruments, thing-len(f.Chart.Marks))
		}
	}
	return marks, instruments, api.OK
}

// fewestWrong returns the first list of the fewest things without which some place agrees. Things are the marks and, behind them, the instruments.
func (v *view) fewestWrong(l []api.FxSight) []int {
	// As many as there are instruments are enough: without all of these every place agrees.
	for n := range len(v.Instruments) + 1 {
		if things, ok := v.firstWrong(n, l); ok {
			return things
		}
	}
	return nil
}

// firstWrong returns the first list of so many things without which some place agrees, and whether there is one.
func (v *view) firstWrong(n int, l []api.FxSight) ([]int, bool) {
	var things []int
	var try func(from int) bool
	try = func(from int) bool {
		if len(things) == n {
			return v.someAgrees(v.without(things, l))
		}
		for thing := from; thing < len(v.Chart.Marks)+len(v.Instruments); thing++ {
			things = append(things, thing)
			if try(thing + 1) {
				return true
			}
			things = things[:len(things)-1]
		}
		return false
	}
	ok := try(0)
	return things, ok
}

// someAgrees reports whether some place of the grid agrees with all sights.
func (v *view) someAgrees(l []api.FxSight) bool {
	for range v.agreeing(v.grid(), l) {
		return true
	}
	return false
}

// without returns the sights that are left if some things are wrong.
func (v *view) without(things []int, l []api.FxSight) []api.FxSight {
	var left []api.FxSight
	for _, s := range l {
		if !slices.ContainsFunc(v.thingsOf(s), func(t int) bool { return slices.Contains(things, t) }) {
			left = append(left, s)
		}
	}
	return left
}

// thingsOf returns the things that a sight is of: its instrument, and of a bearing its mark. (Mark of a sounding is no mark.)
func (v *view) thingsOf(s api.FxSight) []int {
	instrument := len(v.Chart.Marks) + s.Instrument
	switch v.tool(s.Instrument).(type) {
	case compass:
		return []int{s.Mark, instrument}
	default:
		return []int{instrument}
	}
}
