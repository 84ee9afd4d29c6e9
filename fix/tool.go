package fix

import (
	"nore/api"
	"nore/chart"
)

// tool is an instrument of a fix, as sights are taken by it.
type tool interface {
	// check returns the error of a sight by this instrument.
	check(s api.FxSight) api.Errno
	// off returns by which numbers the instrument is off if the place agrees with the sight, and whether it can agree at all.
	off(at api.Point, s api.FxSight) (api.Span, bool)
}

// tool returns an instrument of the fix.
func (v *view) tool(instrument int) tool {
	if v.Instruments[instrument].Lead {
		return lead{v}
	}
	return compass{v}
}

// compass is an instrument by which bearings are taken.
type compass struct{ *view }

func (c compass) check(s api.FxSight) api.Errno {
	colour, e := chart.Colour(c.Chart, c.Day, s.Mark)
	switch {
	case e != api.OK:
		return e // the chart and the day have none, so this is that of the mark
	case colour == api.CtGone:
		return api.ErrDown
	case !within(0, api.CtCompass-1, s.Shown) || s.Ground != 0:
		return api.ErrRange
	}
	return api.OK
}

func (c compass) off(at api.Point, s api.FxSight) (api.Span, bool) {
	point, ok := c.pointOf(s.Mark, at)
	if !ok {
		return api.Span{}, false
	}
	n := further(point, s.Shown)
	return api.Span{Lo: n, Hi: n}, true
}

// further returns how many points a point is further on than another one, round and round: from half a compass back to less than half.
func further(from, to int) int {
	const half = api.CtCompass / 2
	return (to-from+half+api.CtCompass)%api.CtCompass - half
}

// lead is an instrument by which soundings are taken.
type lead struct{ *view }

func (lead) check(s api.FxSight) api.Errno {
	if !within(0, api.MaxFxDepth, s.Shown) || !within(0, api.MaxFxGround, s.Ground) {
		return api.ErrRange
	}
	if s.Mark != 0 {
		return api.ErrArg
	}
	return api.OK
}

func (l lead) off(at api.Point, s api.FxSight) (api.Span, bool) {
	a, charted := l.area(at)
	if !charted {
		return api.Span{Lo: -reach, Hi: reach}, true
	}
	if s.Ground != 0 && s.Ground != a.Ground {
		return api.Span{}, false
	}
	return api.Span{Lo: s.Shown - a.Depth.Hi, Hi: s.Shown - a.Depth.Lo}, true
}
