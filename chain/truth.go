package chain

import (
	"slices"

	"nore/api"
)

// truth is a truth of a weather (api.CnTruth) that can be compared.
type truth struct {
	depth, wind, current, swell, hold int
	thick                             [api.MaxCnShots]int
}

// truthOf returns a truth that was told of as many shots as there can be, or fewer.
func truthOf(t api.CnTruth) truth {
	r := truth{depth: t.Depth, wind: t.Wind, current: t.Current, swell: t.Swell, hold: t.Hold}
	copy(r.thick[:], t.Thick)
	return r
}

// told returns a truth as it is told of so many shots.
func (t truth) told(shots int) api.CnTruth {
	return api.CnTruth{Depth: t.depth, Wind: t.wind, Current: t.current, Swell: t.swell, Hold: t.hold, Thick: slices.Clone(t.thick[:shots])}
}

// worst returns the worst truth of a weather.
func (v *view) worst(weather int) truth {
	w := v.Weathers[weather]
	t := truth{depth: w.Depth.Hi, wind: w.Wind.Hi, current: w.Current.Hi, swell: w.Swell.Hi, hold: v.Chain.Hold.Lo}
	for i, s := range v.Chain.Shots {
		t.thick[i] = v.can[s.Name].Lo
	}
	return t
}

// nearest returns the truth of a weather that is nearest to some numbers: just these, if they are one.
func (v *view) nearest(weather int, t truth) truth {
	w := v.Weathers[weather]
	t.depth = near(t.depth, w.Depth)
	t.wind = near(t.wind, w.Wind)
	t.current = near(t.current, w.Current)
	t.swell = near(t.swell, w.Swell)
	t.hold = near(t.hold, v.Chain.Hold)
	for i, s := range v.Chain.Shots {
		t.thick[i] = near(t.thick[i], v.can[s.Name])
	}
	return t
}

// near returns the number of a span that is nearest to a number.
func near(n int, s api.Span) int { return min(max(n, s.Lo), s.Hi) }
