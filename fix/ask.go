package fix

import (
	"iter"
	"slices"

	"nore/api"
	"nore/chart"
)

// Ask returns the bearing to take next, and how many places it leaves at most.
func Ask(f api.FxFix, l []api.FxSight) (mark, instrument, left int, e api.Errno) {
	v, e := examine(f, l)
	if e != api.OK {
		return 0, 0, 0, e
	}
	if len(l) == api.MaxFxSights {
		return 0, 0, 0, api.ErrLong
	}
	spots := v.spots(l)
	if len(spots) == 0 {
		return 0, 0, 0, api.ErrDown
	}
	found := false
	for m, i := range v.bearings() {
		if n := v.mostLeft(spots, m, i); !found || n < left {
			mark, instrument, left, found = m, i, n, true
		}
	}
	if !found {
		return 0, 0, 0, api.ErrNone
	}
	return mark, instrument, left, api.OK
}

// spot is a place, and by what each instrument can be off there.
type spot struct {
	at  api.Point
	can offs
}

// spots returns the places of the grid that agree with all sights.
func (v *view) spots(l []api.FxSight) []spot {
	var spots []spot
	for at, can := range v.agreeing(v.grid(), l) {
		spots = append(spots, spot{at, can})
	}
	return spots
}

// bearings yields the bearings that can be taken, a mark and a compass: the lower mark first, of the same mark the lower compass.
func (v *view) bearings() iter.Seq2[int, int] {
	return func(yield func(mark, instrument int) bool) {
		for mark := range v.Chart.Marks {
			colour, e := chart.Colour(v.Chart, v.Day, mark)
			if e != api.OK || colour == api.CtGone {
				continue
			}
			for instrument := range v.Instruments {
				if _, ok := v.tool(instrument).(compass); ok && !yield(mark, instrument) {
					return
				}
			}
		}
	}
}

// mostLeft returns how many places a bearing leaves at most, of all points that it can show.
func (v *view) mostLeft(spots []spot, mark, instrument int) int {
	var left [api.CtCompass]int
	for _, s := range spots {
		point, ok := v.pointOf(mark, s.at)
		if !ok {
			continue
		}
		for shown := range api.CtCompass {
			if s.can[instrument].has(further(point, shown)) {
				left[shown]++
			}
		}
	}
	return slices.Max(left[:])
}
