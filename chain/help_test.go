package chain_test

import (
	"math"
	"math/big"
	"math/rand/v2"
	"slices"

	"nore/api"
)

// far are ints far beyond all limits; cut down to 32 bits, some of them are small.
var far = []int{math.MinInt, math.MinInt + 1, -1 << 40, -1<<32 - 1, -1 << 32, -1<<32 + 1, math.MinInt32, math.MaxInt32, 1 << 32, 1<<32 + 1, 1<<32 + 8, 1 << 40, math.MaxInt - 1, math.MaxInt}

func span(lo, hi int) api.Span { return api.Span{Lo: lo, Hi: hi} }

// spans are spans: Lo and Hi of each.
func spans(n ...int) (l []api.Span) {
	for i := 0; i+1 < len(n); i += 2 {
		l = append(l, span(n[i], n[i+1]))
	}
	return l
}

// gauges are gaugings: a day and what was shown each.
func gauges(n ...int) (l []api.CnGauge) {
	for i := 0; i+1 < len(n); i += 2 {
		l = append(l, api.CnGauge{Day: n[i], Shown: n[i+1]})
	}
	return l
}

// rows are rows: Scope and Holds of each.
func rows(n ...int) (l []api.CnRow) {
	for i := 0; i+1 < len(n); i += 2 {
		l = append(l, api.CnRow{Scope: n[i], Holds: n[i+1]})
	}
	return l
}

func shot(name string, links, set int, fresh, wear api.Span, l ...int) api.CnShot {
	return api.CnShot{Name: name, Links: links, Set: set, New: fresh, Wear: wear, Gauges: gauges(l...)}
}

func weather(depth, wind, current, swell api.Span) api.CnWeather {
	return api.CnWeather{Depth: depth, Wind: wind, Current: current, Swell: swell}
}

func truth(depth, wind, current, swell, hold int, thick ...int) api.CnTruth {
	return api.CnTruth{Depth: depth, Wind: wind, Current: current, Swell: swell, Hold: hold, Thick: thick}
}

// example is C of the chapter's examples.
func example() api.CnCase {
	return api.CnCase{
		Chain: api.CnChain{
			Shots: []api.CnShot{
				shot("low", 10, 0, span(20000, 21000), span(2, 4), 100, 20200),
				shot("high", 10, 0, span(18000, 18000), span(5, 5)),
			},
			Long:  10,
			Heavy: 20,
			Err:   100,
			Hold:  span(9000, 12000),
			Rows:  rows(30, 500, 60, 1000),
		},
		Ship: api.CnShip{Wind: 200, Current: 300, Swell: 10, Yaw: 5},
		Day:  1000,
		Weathers: []api.CnWeather{
			weather(span(20, 30), span(20, 40), span(0, 20), span(0, 5)),
			weather(span(20, 30), span(0, 10), span(0, 10), span(10, 15)),
		},
	}
}

// changed is the example with a change.
func changed(change func(c *api.CnCase)) api.CnCase {
	c := example()
	change(&c)
	return c
}

// gauged is the example with a shot ahead of its own ones, and so much that gaugings are off.
func gauged(off int, s api.CnShot) api.CnCase {
	return changed(func(c *api.CnCase) {
		c.Chain.Err = off
		c.Chain.Shots = append([]api.CnShot{s}, c.Chain.Shots...)
		c.Chain.Shots[1].Gauges = nil
	})
}

// plain is a chain of shots that hold, whatever is asked: no force pulls, nothing is heavy, and each scope is long enough.
func plain(l ...api.CnShot) api.CnCase {
	return api.CnCase{
		Chain:    api.CnChain{Shots: l, Long: 1, Rows: rows(1, 1)},
		Day:      40000,
		Weathers: []api.CnWeather{weather(span(1, 1), span(0, 0), span(0, 0), span(0, 0))},
	}
}

func letters(word string, i int) string { return word + "-" + string(rune('a'+i)) }

func clone(c api.CnCase) api.CnCase {
	c.Chain.Shots = slices.Clone(c.Chain.Shots)
	for i := range c.Chain.Shots {
		c.Chain.Shots[i].Gauges = slices.Clone(c.Chain.Shots[i].Gauges)
	}
	c.Chain.Rows = slices.Clone(c.Chain.Rows)
	c.Weathers = slices.Clone(c.Weathers)
	return c
}

// same reports whether two cases are equal.
func same(a, b api.CnCase) bool {
	x, y := a.Chain, b.Chain
	return slices.EqualFunc(x.Shots, y.Shots, func(s, t api.CnShot) bool {
		return s.Name == t.Name && s.Links == t.Links && s.Set == t.Set && s.New == t.New && s.Wear == t.Wear && slices.Equal(s.Gauges, t.Gauges)
	}) && x.Long == y.Long && x.Heavy == y.Heavy && x.Err == y.Err && x.Hold == y.Hold && slices.Equal(x.Rows, y.Rows) &&
		a.Ship == b.Ship && a.Day == b.Day && slices.Equal(a.Weathers, b.Weathers)
}

func sameTruth(a, b api.CnTruth) bool {
	return a.Depth == b.Depth && a.Wind == b.Wind && a.Current == b.Current && a.Swell == b.Swell && a.Hold == b.Hold && slices.Equal(a.Thick, b.Thick)
}

// What follows holds the chapter's definitions, as they stand there, against the package.

// thickness is that of a truth of a shot on a day.
func thickness(s api.CnShot, fresh, wear, day int) int { return max(0, fresh-wear*(day-s.Set)) }

// agrees reports whether a gauging agrees with a truth of a shot.
func agrees(s api.CnShot, fresh, wear int, g api.CnGauge, off int) bool {
	n := g.Shown - thickness(s, fresh, wear, g.Day)
	return -off <= n && n <= off
}

// thicknesses are the least and the greatest thickness that a shot can have on a day, over all truths one by one, and whether there is any.
func thicknesses(s api.CnShot, off, day int) (can api.Span, ok bool) {
	for fresh := s.New.Lo; fresh <= s.New.Hi; fresh++ {
		for wear := s.Wear.Lo; wear <= s.Wear.Hi; wear++ {
			if slices.ContainsFunc(s.Gauges, func(g api.CnGauge) bool { return !agrees(s, fresh, wear, g, off) }) {
				continue
			}
			n := thickness(s, fresh, wear, day)
			if !ok {
				can, ok = span(n, n), true
			}
			can = span(min(can.Lo, n), max(can.Hi, n))
		}
	}
	return can, ok
}

// picked are the indices, of so many, whose bits are set.
func picked(set uint, n int) (l []int) {
	for i := range n {
		if set>>i&1 == 1 {
			l = append(l, i)
		}
	}
	return l
}

// before reports whether a list is shorter than another one, or as long and, number by number, first.
func before(a, b []int) bool {
	if len(a) != len(b) {
		return len(a) < len(b)
	}
	return slices.Compare(a, b) < 0
}

// without is a shot without the gaugings of a list.
func without(s api.CnShot, l []int) api.CnShot {
	var left []api.CnGauge
	for i, g := range s.Gauges {
		if !slices.Contains(l, i) {
			left = append(left, g)
		}
	}
	s.Gauges = left
	return s
}

// doubts goes through all lists of gaugings.
func doubts(s api.CnShot, off int) (best []int) {
	found := false
	for set := range uint(1) << len(s.Gauges) {
		l := picked(set, len(s.Gauges))
		if _, ok := thicknesses(without(s, l), off, s.Set); ok && (!found || before(l, best)) {
			best, found = l, true
		}
	}
	return best
}

func rat(n, by int) *big.Rat { return big.NewRat(int64(n), int64(by)) }

// roundedUp is the least whole number that is not below a number.
func roundedUp(r *big.Rat) int {
	q, m := new(big.Int).DivMod(r.Num(), r.Denom(), new(big.Int))
	if m.Sign() > 0 {
		q.Add(q, big.NewInt(1))
	}
	return int(q.Int64())
}

func pull(c api.CnCase, t api.CnTruth, out int) int {
	steady := roundedUp(rat(t.Wind*t.Wind*c.Ship.Wind+t.Current*t.Current*c.Ship.Current, 100))
	all := steady + t.Swell*c.Ship.Swell
	return roundedUp(rat(all*(1000+c.Ship.Yaw*out), 1000))
}

// anchorHolds is as much as the anchor holds.
func anchorHolds(c api.CnCase, t api.CnTruth, out int) *big.Rat {
	depth := t.Depth + roundedUp(rat(t.Swell, 2))
	for i := len(c.Chain.Rows) - 1; i >= 0; i-- {
		if r := c.Chain.Rows[i]; r.Scope*depth <= 10*c.Chain.Long*out {
			return rat(t.Hold*r.Holds, 1000)
		}
	}
	return rat(0, 1)
}

// whyNot is why the chain does not hold in a truth, and the shot.
func whyNot(c api.CnCase, t api.CnTruth, out int) (why, shot int) {
	p := pull(c, t, out)
	if rat(p, 1).Cmp(anchorHolds(c, t, out)) > 0 {
		return api.CnDrags, 0
	}
	links := 0
	for i, s := range c.Chain.Shots {
		strain := -1 // none, of a shot that is not out
		for range s.Links {
			if links < out {
				links++
				strain = p + c.Chain.Heavy*links
			}
		}
		if strain > t.Thick[i]*t.Thick[i]/20000 {
			return api.CnParts, i
		}
	}
	return api.CnHolds, 0
}

// worst is the worst truth of a weather. (The gaugings do not contradict each other.)
func worst(c api.CnCase, weather int) api.CnTruth {
	w := c.Weathers[weather]
	t := truth(w.Depth.Hi, w.Wind.Hi, w.Current.Hi, w.Swell.Hi, c.Chain.Hold.Lo)
	for _, s := range c.Chain.Shots {
		can, _ := thicknesses(s, c.Chain.Err, c.Day)
		t.Thick = append(t.Thick, can.Lo)
	}
	return t
}

func linksOf(c api.CnCase) (n int) {
	for _, s := range c.Chain.Shots {
		n += s.Links
	}
	return n
}

// scopes are, of each number of links out, whether the chain holds in all weathers; the first one is of none.
func scopes(c api.CnCase) []bool {
	hold := []bool{false}
	for range linksOf(c) {
		hold = append(hold, true)
	}
	for i := range c.Weathers {
		t := worst(c, i)
		for out := 1; out < len(hold); out++ {
			if why, _ := whyNot(c, t, out); why != api.CnHolds {
				hold[out] = false
			}
		}
	}
	return hold
}

// renewed is a case with some shots replaced, and turned or not.
func renewed(c api.CnCase, l []int, turned bool) api.CnCase {
	c = clone(c)
	for _, i := range l {
		s := c.Chain.Shots[i]
		c.Chain.Shots[i] = api.CnShot{Name: s.Name, Links: s.Links, Set: c.Day, New: s.New, Wear: s.Wear}
	}
	if turned {
		slices.Reverse(c.Chain.Shots)
	}
	return c
}

// renewal goes through all renewals.
func renewal(c api.CnCase) (best []int, turned, found bool) {
	for set := range uint(1) << len(c.Chain.Shots) {
		l := picked(set, len(c.Chain.Shots))
		if found && !before(l, best) {
			continue
		}
		for _, turn := range []bool{false, true} {
			if slices.Contains(scopes(renewed(c, l, turn)), true) {
				best, turned, found = l, turn, true
				break
			}
		}
	}
	return best, turned, found
}

// dice are random numbers, the same ones in each run.
type dice struct{ *rand.Rand }

func newDice(seed uint64) dice { return dice{rand.New(rand.NewPCG(seed, 3))} }

// from is a number from lo to hi.
func (d dice) from(lo, hi int) int { return lo + d.IntN(hi-lo+1) }

// span is a span within two numbers, at most so wide.
func (d dice) span(lo, hi, wide int) api.Span {
	a := d.from(lo, hi)
	return span(a, d.from(a, min(hi, a+wide)))
}

// shot is a random shot; how thick it is when it is new is about so much.
func (d dice) shot(name string, thick int) api.CnShot {
	s := api.CnShot{Name: name, Links: d.from(1, 8), Set: d.from(0, 60)}
	lo := max(1, thick-d.from(0, 20))
	s.New, s.Wear = span(lo, lo+d.from(0, 20)), d.span(0, d.from(1, 18), 2)
	return s
}

// gauge adds gaugings to a shot that are off by at most so much, of one truth; so many per cent show anything.
func (d dice) gauge(s api.CnShot, n, off, wrong int) api.CnShot {
	fresh, wear := d.from(s.New.Lo, s.New.Hi), d.from(s.Wear.Lo, s.Wear.Hi)
	var days []int
	for range n {
		days = append(days, s.Set+d.from(0, 60))
	}
	slices.Sort(days)
	for _, day := range days {
		shown := max(0, thickness(s, fresh, wear, day)+d.from(-off, off))
		if d.IntN(100) < wrong {
			shown = d.from(0, s.New.Hi+off)
		}
		s.Gauges = append(s.Gauges, api.CnGauge{Day: day, Shown: shown})
	}
	return s
}

// rows are up to n random rows.
func (d dice) rows(n int) (l []api.CnRow) {
	last := api.CnRow{}
	for range d.from(1, n) {
		last = api.CnRow{Scope: last.Scope + d.from(1, 30), Holds: last.Holds + d.from(1, 160)}
		l = append(l, last)
	}
	return l
}

// holding is a random case, up to so many shots and weathers, that holds in about half of all ways; no gaugings contradict each other.
func (d dice) holding(shots, weathers, wide int) api.CnCase {
	c := api.CnCase{Day: d.from(60, 100)}
	c.Ship = api.CnShip{Wind: d.from(0, 100), Current: d.from(0, 100), Swell: d.from(0, 40), Yaw: d.from(0, 20)}
	c.Chain.Rows, c.Chain.Long, c.Chain.Heavy, c.Chain.Err = d.rows(4), d.from(1, 20), d.from(0, 60), d.from(0, 15)
	for range d.from(1, weathers) {
		c.Weathers = append(c.Weathers, weather(d.span(1, 12, wide), d.span(0, 20, wide), d.span(0, 20, wide), d.span(0, 9, wide)))
	}
	force := 1
	for _, w := range c.Weathers {
		t := truth(w.Depth.Hi, w.Wind.Hi, w.Current.Hi, w.Swell.Hi, 0)
		force = max(force, pull(c, t, 10))
	}
	holds := c.Chain.Rows[d.IntN(len(c.Chain.Rows))].Holds
	lo := min(200000, force*d.from(900, 1500)/holds)
	c.Chain.Hold = span(lo, min(200000, lo+d.from(0, wide)))
	for i := range d.from(1, shots) {
		strain := force + c.Chain.Heavy*3*(i+1)
		thick := int(math.Sqrt(float64(20000*strain)))*d.from(100, 130)/100 + 10
		c.Chain.Shots = append(c.Chain.Shots, d.gauge(d.shot(letters("shot", i), min(thick, 50000)), d.from(0, 3), c.Chain.Err, 0))
	}
	return c
}
