package chain

import (
	"iter"

	"nore/api"
)

// why returns why the chain does not hold in a truth with so many links out, and which shot parts.
func (v *view) why(t truth, out int) (why, shot int) {
	pull := v.pull(t, out)
	// Both sides in thousandths of a kilogram, as Holds are per mille.
	if pull*api.All > t.hold*v.holds(t, out) {
		return api.CnDrags, 0
	}
	for shot, links := range v.shotsOut(out) {
		if pull+v.Chain.Heavy*links > bears(t.thick[shot]) {
			return api.CnParts, shot
		}
	}
	return api.CnHolds, 0
}

// pull returns the pull in a truth with so many links out.
func (v *view) pull(t truth, out int) int {
	forces := [...]func(truth) int{v.ofWind, v.ofCurrent, v.ofSwell}
	hundredths := 0
	for _, force := range forces {
		hundredths += force(t)
	}
	return dividedUp(dividedUp(hundredths, 100)*(api.All+v.Ship.Yaw*out), api.All)
}

// ofWind, ofCurrent and ofSwell return what pulls at the ship, in hundredths of a kilogram. (That of the swell is whole kilograms, so it does not matter that all are rounded up together.)
func (v *view) ofWind(t truth) int { return t.wind * t.wind * v.Ship.Wind }

func (v *view) ofCurrent(t truth) int { return t.current * t.current * v.Ship.Current }

func (v *view) ofSwell(t truth) int { return t.swell * v.Ship.Swell * 100 }

// dividedUp returns a number that is not below 0, divided and rounded up.
func dividedUp(n, by int) int { return (n + by - 1) / by }

// holds returns which part of Hold, per mille, the anchor holds in a truth with so many links out.
func (v *view) holds(t truth, out int) int {
	holds := 0
	for _, r := range v.Chain.Rows {
		if r.Scope*(t.depth+dividedUp(t.swell, 2)) <= 10*v.Chain.Long*out {
			holds = r.Holds
		}
	}
	return holds
}

// shotsOut yields the shots that are out, from the anchor on, and how many links are out from the anchor to the last one of the shot.
func (v *view) shotsOut(out int) iter.Seq2[int, int] {
	return func(yield func(shot, links int) bool) {
		links := 0
		for i, s := range v.Chain.Shots {
			if links == out {
				return
			}
			links = min(links+s.Links, out)
			if !yield(i, links) {
				return
			}
		}
	}
}
