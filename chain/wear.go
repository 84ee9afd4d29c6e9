package chain

import (
	"iter"

	"nore/api"
)

// truths yields the truths of a shot with which all its gaugings agree, wear by wear: the wear, and the numbers of New that go with it.
func (v *view) truths(s api.CnShot) iter.Seq2[int, api.Span] {
	return func(yield func(wear int, fresh api.Span) bool) {
		for wear := s.Wear.Lo; wear <= s.Wear.Hi; wear++ {
			fresh := s.New
			for _, g := range s.Gauges {
				fresh = both(fresh, v.freshBy(g, wear*(g.Day-s.Set)))
			}
			if fresh.Lo <= fresh.Hi && !yield(wear, fresh) {
				return
			}
		}
	}
}

// freshBy returns how thick a new shot can have been by a gauging, if it was worn down by so much since.
func (v *view) freshBy(g api.CnGauge, worn int) api.Span {
	least, most := g.Shown-v.Chain.Err, g.Shown+v.Chain.Err
	if least <= 0 {
		// It can be worn away, and then nothing tells how thin it was when new.
		return api.Span{Lo: 0, Hi: most + worn}
	}
	return api.Span{Lo: least + worn, Hi: most + worn}
}

// both returns the numbers that are in both spans; none, if its Lo is above its Hi.
func both(a, b api.Span) api.Span {
	return api.Span{Lo: max(a.Lo, b.Lo), Hi: min(a.Hi, b.Hi)}
}

// thickness returns how thick a shot can be on a day, and whether its gaugings do not contradict each other.
func (v *view) thickness(s api.CnShot, day int) (api.Span, bool) {
	var can api.Span
	found := false
	for wear, fresh := range v.truths(s) {
		worn := wear * (day - s.Set)
		lo, hi := max(0, fresh.Lo-worn), max(0, fresh.Hi-worn)
		if found {
			lo, hi = min(lo, can.Lo), max(hi, can.Hi)
		}
		can, found = api.Span{Lo: lo, Hi: hi}, true
	}
	return can, found
}

// renewed returns what replaces a shot on the Day.
func (v *view) renewed(s api.CnShot) []api.CnShot {
	s.Set, s.Gauges = v.Day, nil
	return []api.CnShot{s}
}

// bears returns what a shot of a thickness bears, in kilograms.
func bears(thick int) int { return thick * thick / api.CnBreaks }
