package fix

import (
	"iter"

	"nore/api"
	"nore/chart"
)

// view is a fix that is looked at.
type view struct {
	api.FxFix
	seen map[sighting]outcome
}

// sighting is a mark that is looked for from a place, and outcome what chart.Seen told of it.
type (
	sighting struct {
		from api.Point
		mark int
	}
	outcome struct {
		point int
		e     api.Errno
	}
)

func newView(f api.FxFix) *view {
	return &view{FxFix: f, seen: map[sighting]outcome{}}
}

// examine returns the view of a fix, or the error of the fix and the sights.
func examine(f api.FxFix, l []api.FxSight) (*view, api.Errno) {
	if _, e := CheckSights(f, l); e != api.OK {
		return nil, e
	}
	return newView(f), api.OK
}

// grid yields the places of the grid: the lower X first, of the same X the lower Y.
func (v *view) grid() iter.Seq[api.Point] {
	return func(yield func(api.Point) bool) {
		for x := -v.Half; x <= v.Half; x++ {
			for y := -v.Half; y <= v.Half; y++ {
				if !yield(api.Point{X: v.Step * x, Y: v.Step * y}) {
					return
				}
			}
		}
	}
}

// agreeing yields those of the places that agree with all sights, and by what each instrument can be off there.
func (v *view) agreeing(places iter.Seq[api.Point], l []api.FxSight) iter.Seq2[api.Point, offs] {
	return func(yield func(api.Point, offs) bool) {
		all := v.allOffs()
	places:
		for at := range places {
			can := all
			for _, s := range l {
				off, ok := v.tool(s.Instrument).off(at, s)
				if !ok || !can[s.Instrument].keep(off) {
					continue places
				}
			}
			if !yield(at, can) {
				return
			}
		}
	}
}

// allOffs returns the numbers of Off of each instrument.
func (v *view) allOffs() offs {
	var all offs
	for i, x := range v.Instruments {
		all[i] = numbersOf(x.Off)
	}
	return all
}

// pointOf returns the point in which a mark is seen from a place, and whether it is: it is not if it is just there.
func (v *view) pointOf(mark int, at api.Point) (int, bool) {
	key := sighting{at, mark}
	o, known := v.seen[key]
	if !known {
		o.point, o.e = chart.Seen(v.Chart, v.Day, mark, at)
		v.seen[key] = o
	}
	return o.point, o.e == api.OK
}

// area returns the area of a place, and whether it is in one.
func (v *view) area(at api.Point) (api.FxArea, bool) {
	for _, a := range v.Areas {
		if within(a.X.Lo, a.X.Hi, at.X) && within(a.Y.Lo, a.Y.Hi, at.Y) {
			return a, true
		}
	}
	return api.FxArea{}, false
}
