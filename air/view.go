package air

import (
	"cmp"
	"iter"
	"slices"

	"nore/api"
)

// report is a report that is looked at, and the spot that it comes from.
type report struct {
	api.AiReport
	spot
}

// agrees reports whether a truth agrees with a report of it.
func (r report) agrees(t signal) bool { return r.Yes == t.reaches(r.spot) }

// view is a night of a station that is looked at.
type view struct {
	api.AiStation
	api.AiNight
	reports []report
}

func newView(s api.AiStation, n api.AiNight, l []api.AiReport) *view {
	v := &view{AiStation: s, AiNight: n}
	for _, x := range l {
		v.reports = append(v.reports, report{AiReport: x, spot: v.spot(x.At)})
	}
	return v
}

// check returns the error of what is asked of a night without an error of its own.
type check func() api.Errno

// examine returns the view of a night, or the first error: its own, and then those of the checks.
func examine(s api.AiStation, n api.AiNight, l []api.AiReport, checks ...check) (*view, api.Errno) {
	if _, e := CheckNight(s, n, l); e != api.OK {
		return nil, e
	}
	for _, check := range checks {
		if e := check(); e != api.OK {
			return nil, e
		}
	}
	return newView(s, n, l), api.OK
}

// areWithin checks that numbers are from lo to hi.
func areWithin(lo, hi int, numbers ...int) check {
	return func() api.Errno {
		if !within(lo, hi, numbers...) {
			return api.ErrRange
		}
		return api.OK
	}
}

// spot returns the spot of a place.
func (v *view) spot(at api.Point) spot {
	return spotAt(api.Point{X: at.X - v.At.X, Y: at.Y - v.At.Y})
}

// truths yields all truths of the horn, or else of the light.
func (v *view) truths(ofHorn bool) iter.Seq[signal] {
	if ofHorn {
		return signals(v.Loud, api.Span{Lo: v.Wind, Hi: v.Wind + v.Winds - 1}, newHorn)
	}
	return signals(v.Grades[v.Grade].Candles, v.Clear, newLight)
}

// told yields the reports of the horn, or else of the light, each with its index.
func (v *view) told(ofHorn bool) iter.Seq2[int, report] {
	return func(yield func(int, report) bool) {
		for i, r := range v.reports {
			if r.Horn == ofHorn && !yield(i, r) {
				return
			}
		}
	}
}

// agreeing yields the truths of the horn, or else of the light, that agree with all reports of it.
func (v *view) agreeing(ofHorn bool) iter.Seq[signal] {
	return func(yield func(signal) bool) {
	truths:
		for t := range v.truths(ofHorn) {
			for _, r := range v.told(ofHorn) {
				if !r.agrees(t) {
					continue truths
				}
			}
			if !yield(t) {
				return
			}
		}
	}
}

// set is some of the reports: a bit for each one.
type set uint

// fewestFalse returns the first list of the fewest reports of the horn, or else of the light, without which it has a truth.
func (v *view) fewestFalse(ofHorn bool) []int {
	met := map[set]bool{}
	var lists [][]int
	for t := range v.truths(ofHorn) {
		var agreed set
		var others []int
		for i, r := range v.told(ofHorn) {
			if r.agrees(t) {
				agreed |= 1 << i
			} else {
				others = append(others, i)
			}
		}
		if !met[agreed] {
			met[agreed] = true
			lists = append(lists, others)
		}
	}
	return slices.MinFunc(lists, func(a, b []int) int {
		return cmp.Or(cmp.Compare(len(a), len(b)), slices.Compare(a, b))
	})
}

// byOil returns the grades, the one that burns least first.
func (v *view) byOil() []int {
	var order []int
	for grade := range v.Grades {
		order = append(order, grade)
	}
	slices.SortStableFunc(order, func(a, b int) int { return cmp.Compare(v.Grades[a].Oil, v.Grades[b].Oil) })
	return order
}

// does reports whether the light is seen with a grade at a spot, in each of some truths of the light.
func (v *view) does(grade int, at spot, truths []signal) bool {
	for _, t := range truths {
		if grade != v.Grade {
			// With more candles it is seen as well, so the fewest ones decide.
			_, clear := t.numbers()
			t = newLight(v.Grades[grade].Candles.Lo, clear)
		}
		if !t.reaches(at) {
			return false
		}
	}
	return true
}
