package lamp_test

import (
	"cmp"
	"math"
	"math/rand/v2"
	"slices"

	"nore/api"
)

// far are ints far beyond all limits; cut down to 32 bits, some of them are small.
var far = []int{math.MinInt, math.MinInt + 1, -1 << 40, -1<<32 - 1, -1 << 32, -1<<32 + 1, math.MinInt32, math.MaxInt32, 1 << 32, 1<<32 + 1, 1<<32 + 8, 1 << 40, math.MaxInt - 1, math.MaxInt}

func span(lo, hi int) api.Span { return api.Span{Lo: lo, Hi: hi} }

// spans are spans: the Lo and the Hi of each.
func spans(n ...int) (l []api.Span) {
	for i := 0; i+1 < len(n); i += 2 {
		l = append(l, span(n[i], n[i+1]))
	}
	return l
}

func lit(second int) api.LpSight { return api.LpSight{Second: second, Lit: true} }

func dark(second int) api.LpSight { return api.LpSight{Second: second} }

func truth(start int, speeds ...int) api.LpTruth { return api.LpTruth{Start: start, Speeds: speeds} }

// light is a light: of each phase the Lo and the Hi of Flash, and of Dark.
func light(name string, n ...int) api.LpLight {
	l := api.LpLight{Name: name}
	for i := 0; i+3 < len(n); i += 4 {
		l.Phases = append(l.Phases, api.LpPhase{Flash: span(n[i], n[i+1]), Dark: span(n[i+2], n[i+3])})
	}
	return l
}

// exampleLamp is L of the chapter's examples.
func exampleLamp() api.LpLamp {
	return api.LpLamp{Drum: 12, Lit: spans(0, 2), Start: span(0, 1), Speed: span(1, 2), Slow: 100, Night: 24}
}

// example is C of the chapter's examples, with further sights.
func example(further ...api.LpSight) api.LpCase {
	return api.LpCase{Lamp: exampleLamp(), Sights: append([]api.LpSight{dark(3), lit(12)}, further...)}
}

// exampleD is D of the chapter's examples, with further sights.
func exampleD(further ...api.LpSight) api.LpCase {
	return example(append([]api.LpSight{dark(13)}, further...)...)
}

// noreLight and sunkLight are the lights of the chapter's examples.
func noreLight() api.LpLight { return light("nore", 1, 3, 3, 9) }

func sunkLight() api.LpLight { return light("sunk", 1, 2, 4, 5) }

// wide is a light that each lamp always keeps.
func wide() api.LpLight { return light("wide", 1, 200, 1, 200) }

// steady is a case with just one truth: its drum starts at the position 0 with this speed, and is never slower.
func steady(drum, speed, night int, openings ...int) api.LpCase {
	return api.LpCase{Lamp: api.LpLamp{Drum: drum, Lit: spans(openings...), Speed: span(speed, speed), Slow: api.MaxLpNight, Night: night}}
}

// shown is a case with just one truth, in which the light is seen as a text says: a letter for each second, # if it is lit. The drum turns as often as the text comes again.
func shown(text string) api.LpCase {
	drum := 2
	for drum < len(text) && text[drum:] != text[:len(text)-drum] {
		drum++
	}
	var openings []int
	for i := range min(drum, len(text)) {
		if text[i] == '#' {
			openings = append(openings, i, i)
		}
	}
	c := steady(drum, 1, len(text))
	for _, s := range spans(openings...) {
		if n := len(c.Lamp.Lit); n > 0 && c.Lamp.Lit[n-1].Hi == s.Lo-1 {
			c.Lamp.Lit[n-1].Hi = s.Hi
		} else {
			c.Lamp.Lit = append(c.Lamp.Lit, s)
		}
	}
	return c
}

// nightFrom is a night as a text says.
func nightFrom(text string) (night []bool) {
	for i := range text {
		night = append(night, text[i] == '#')
	}
	return night
}

func cloneLamp(x api.LpLamp) api.LpLamp {
	x.Lit = slices.Clone(x.Lit)
	return x
}

func clone(c api.LpCase) api.LpCase {
	return api.LpCase{Lamp: cloneLamp(c.Lamp), Windings: slices.Clone(c.Windings), Sights: slices.Clone(c.Sights)}
}

func cloneLights(l []api.LpLight) []api.LpLight {
	l = slices.Clone(l)
	for i := range l {
		l[i].Phases = slices.Clone(l[i].Phases)
	}
	return l
}

// same reports whether two cases are equal.
func same(a, b api.LpCase) bool {
	x, y := a.Lamp, b.Lamp
	lamps := x.Drum == y.Drum && slices.Equal(x.Lit, y.Lit) && x.Start == y.Start && x.Speed == y.Speed && x.Slow == y.Slow && x.Night == y.Night
	return lamps && slices.Equal(a.Windings, b.Windings) && slices.Equal(a.Sights, b.Sights)
}

func sameLights(a, b []api.LpLight) bool {
	return slices.EqualFunc(a, b, func(s, t api.LpLight) bool { return s.Name == t.Name && slices.Equal(s.Phases, t.Phases) })
}

func sameTruth(a, b api.LpTruth) bool { return a.Start == b.Start && slices.Equal(a.Speeds, b.Speeds) }

// What follows holds the chapter's definitions, as they stand there, against the package.

func within(lo, n, hi int) bool { return lo <= n && n <= hi }

// speedAt is the speed at a second.
func speedAt(c api.LpCase, t api.LpTruth, second int) int {
	run, begin := 0, 0
	for i, w := range c.Windings {
		if w <= second {
			run, begin = i+1, w
		}
	}
	speed := t.Speeds[run]
	for begin+c.Lamp.Slow <= second {
		begin, speed = begin+c.Lamp.Slow, speed-1
	}
	return max(0, speed)
}

// nightOf is whether the light is lit, second by second.
func nightOf(c api.LpCase, t api.LpTruth) (night []bool) {
	position := t.Start
	for second := range c.Lamp.Night {
		night = append(night, slices.ContainsFunc(c.Lamp.Lit, func(s api.Span) bool { return within(s.Lo, position, s.Hi) }))
		position += speedAt(c, t, second)
		for position >= c.Lamp.Drum {
			position -= c.Lamp.Drum
		}
	}
	return night
}

// truthsOf are all truths of a case: the lower Start first, of the same one by Speeds.
func truthsOf(c api.LpCase) (all []api.LpTruth) {
	for start := c.Lamp.Start.Lo; start <= c.Lamp.Start.Hi; start++ {
		some := []api.LpTruth{truth(start)}
		for range len(c.Windings) + 1 {
			var longer []api.LpTruth
			for _, t := range some {
				for speed := c.Lamp.Speed.Lo; speed <= c.Lamp.Speed.Hi; speed++ {
					longer = append(longer, truth(start, append(slices.Clone(t.Speeds), speed)...))
				}
			}
			some = longer
		}
		all = append(all, some...)
	}
	return all
}

// agrees reports whether all sights are true in a truth.
func agrees(c api.LpCase, t api.LpTruth) bool {
	night := nightOf(c, t)
	return !slices.ContainsFunc(c.Sights, func(x api.LpSight) bool { return night[x.Second] != x.Lit })
}

// agreeing are the truths that agree with all sights.
func agreeing(c api.LpCase) (all []api.LpTruth) {
	for _, t := range truthsOf(c) {
		if agrees(c, t) {
			all = append(all, t)
		}
	}
	return all
}

// showsOf are the stretches in which the light is lit.
func showsOf(night []bool) (l []api.Span) {
	for i, is := range night {
		switch {
		case is && i > 0 && night[i-1]:
			l[len(l)-1].Hi = i
		case is:
			l = append(l, span(i, i))
		}
	}
	return l
}

// stretches are how long the light is lit, or dark, one after the other.
func stretches(night []bool) (l []int) {
	for i := range night {
		if i == 0 || night[i] != night[i-1] {
			l = append(l, 0)
		}
		l[len(l)-1]++
	}
	return l
}

// keeps reports whether seconds keep a character.
func keeps(night []bool, l api.LpLight) bool {
	var parts []api.Span
	for _, p := range l.Phases {
		parts = append(parts, p.Flash, p.Dark)
	}
	part := 0
	if !night[0] {
		part = 1
	}
	all := stretches(night)
begins:
	for ; part < len(parts); part += 2 {
		for i, seconds := range all {
			p := parts[(part+i)%len(parts)]
			if seconds > p.Hi || i > 0 && i < len(all)-1 && seconds < p.Lo {
				continue begins
			}
		}
		return true
	}
	return false
}

// failsAt is the second at which the light fails, or -1.
func failsAt(night []bool, l api.LpLight) int {
	for second := 1; second < len(night); second++ {
		if !keeps(night[:second+1], l) && keeps(night[:second], l) {
			return second
		}
	}
	return -1
}

// hull is the least span with all numbers.
func hull(numbers []int) api.Span { return span(slices.Min(numbers), slices.Max(numbers)) }

// rangeOf is what Range returns.
func rangeOf(c api.LpCase) (start api.Span, speeds []api.Span, e api.Errno) {
	all := agreeing(c)
	if len(all) == 0 {
		return span(0, 0), nil, api.ErrDown
	}
	var starts []int
	runs := make([][]int, len(c.Windings)+1)
	for _, t := range all {
		starts = append(starts, t.Start)
		for i := range runs {
			runs[i] = append(runs[i], t.Speeds[i])
		}
	}
	for _, numbers := range runs {
		speeds = append(speeds, hull(numbers))
	}
	return hull(starts), speeds, api.OK
}

// at is what At returns.
func at(c api.LpCase, second int) (int, api.Errno) {
	if !within(0, second, c.Lamp.Night-1) {
		return 0, api.ErrRange
	}
	all := agreeing(c)
	some := 0
	for _, t := range all {
		if nightOf(c, t)[second] {
			some++
		}
	}
	switch {
	case len(all) == 0:
		return 0, api.ErrDown
	case some == 0:
		return 0, api.OK
	case some == len(all):
		return 1, api.OK
	}
	return 2, api.OK
}

// picked are the indices, of so many, whose bits are set.
func picked(set uint, n int) (l []int) {
	for i := range n {
		if set>>i&1 == 1 {
			l = append(l, i)
		}
	}
	return l
}

// without is a case without the sights whose indices are in a list.
func without(c api.LpCase, list []int) api.LpCase {
	var l []api.LpSight
	for i, x := range c.Sights {
		if !slices.Contains(list, i) {
			l = append(l, x)
		}
	}
	c.Sights = l
	return c
}

// before reports whether a list is shorter than another one, or as long and, number by number, first.
func before(a, b []int) bool {
	if len(a) != len(b) {
		return len(a) < len(b)
	}
	return slices.Compare(a, b) < 0
}

// wrong goes through all lists of sights.
func wrong(c api.LpCase) (best []int) {
	nights := [][]bool{}
	for _, t := range truthsOf(c) {
		nights = append(nights, nightOf(c, t))
	}
	found := false
	for set := range uint(1) << len(c.Sights) {
		list := picked(set, len(c.Sights))
		if found && !before(list, best) {
			continue
		}
		left := without(c, list).Sights
		if slices.ContainsFunc(nights, func(night []bool) bool {
			return !slices.ContainsFunc(left, func(x api.LpSight) bool { return night[x.Second] != x.Lit })
		}) {
			best, found = list, true
		}
	}
	return best
}

// kept is what Kept returns.
func kept(c api.LpCase, l api.LpLight) (api.LpTruth, int, api.Errno) {
	type failure struct {
		t      api.LpTruth
		second int
	}
	all := agreeing(c)
	if len(all) == 0 {
		return truth(0), 0, api.ErrDown
	}
	var failures []failure
	for _, t := range all {
		if second := failsAt(nightOf(c, t), l); second >= 0 {
			failures = append(failures, failure{t, second})
		}
	}
	if len(failures) == 0 {
		return truth(0), 0, api.ErrNone
	}
	first := slices.MinFunc(failures, func(a, b failure) int {
		return cmp.Or(a.second-b.second, a.t.Start-b.t.Start, slices.Compare(a.t.Speeds, b.t.Speeds))
	})
	return first.t, first.second, api.OK
}

// which is what Which returns.
func which(c api.LpCase, l []api.LpLight) (r []int) {
	all := agreeing(c)
	for i, x := range l {
		if slices.ContainsFunc(all, func(t api.LpTruth) bool { return keeps(nightOf(c, t), x) }) {
			r = append(r, i)
		}
	}
	return r
}

// runsKeep reports whether so many seconds, the first ones of a run, keep a character, whatever position the drum has when it begins, and whatever speed it has.
func runsKeep(x api.LpLamp, l api.LpLight, seconds int) bool {
	x.Night = seconds
	for start := range x.Drum {
		for speed := x.Speed.Lo; speed <= x.Speed.Hi; speed++ {
			if !keeps(nightOf(api.LpCase{Lamp: x}, truth(start, speed)), l) {
				return false
			}
		}
	}
	return true
}

// longest is what Longest returns.
func longest(x api.LpLamp, l api.LpLight) int {
	for seconds := x.Night; ; seconds-- {
		if runsKeep(x, l, seconds) {
			return seconds
		}
	}
}

// dice are random numbers, the same ones in each run.
type dice struct{ *rand.Rand }

func newDice(seed uint64) dice { return dice{rand.New(rand.NewPCG(seed, 5))} }

// from is a number from lo to hi.
func (d dice) from(lo, hi int) int { return lo + d.IntN(hi-lo+1) }

// in is a number from a span.
func (d dice) in(s api.Span) int { return d.from(s.Lo, s.Hi) }

// lamp is a random lamp, with so many positions, and so long a night at most.
func (d dice) lamp(drum, night int) api.LpLamp {
	x := api.LpLamp{Drum: d.from(2, drum), Night: d.from(1, night)}
	for at := d.from(0, 2); at < x.Drum && len(x.Lit) < d.from(1, 4); {
		hi := min(x.Drum-1, at+d.from(0, x.Drum/3))
		x.Lit = append(x.Lit, span(at, hi))
		at = hi + d.from(1, 1+x.Drum/2)
	}
	x.Start.Lo = d.from(0, x.Drum-1)
	x.Start.Hi = min(x.Drum-1, x.Start.Lo+d.from(0, 3))
	x.Speed.Lo = d.from(1, max(1, x.Drum/4))
	x.Speed.Hi = min(40, x.Speed.Lo+d.from(0, 2))
	x.Slow = d.from(1, []int{3, 12, 200}[d.IntN(3)])
	return x
}

// windings are at most so many random windings of a night.
func (d dice) windings(night, most int) (l []int) {
	for range d.from(0, most) {
		if night > 1 {
			l = append(l, d.from(1, night-1))
		}
	}
	slices.Sort(l)
	return slices.Compact(l)
}

// truth is a random truth of a case.
func (d dice) truth(c api.LpCase) api.LpTruth {
	t := truth(d.in(c.Lamp.Start))
	for range len(c.Windings) + 1 {
		t.Speeds = append(t.Speeds, d.in(c.Lamp.Speed))
	}
	return t
}

// sights are so many random sights of a truth; so many per cent of them are not true.
func (d dice) sights(c api.LpCase, t api.LpTruth, n, untrue int) (l []api.LpSight) {
	night := nightOf(c, t)
	for range n {
		second := d.from(0, c.Lamp.Night-1)
		l = append(l, api.LpSight{Second: second, Lit: night[second] != (d.IntN(100) < untrue)})
	}
	return l
}

// someCase is a random case with at most so many sights, so many per cent of which are not true, and the truth of which the others are.
func (d dice) someCase(drum, night, sights, untrue int) (api.LpCase, api.LpTruth) {
	c := api.LpCase{Lamp: d.lamp(drum, night)}
	c.Windings = d.windings(c.Lamp.Night, 2)
	t := d.truth(c)
	c.Sights = d.sights(c, t, d.from(0, sights), untrue)
	return c, t
}

// light is a random light: mostly a night keeps its character, or nearly does.
func (d dice) light(name string, night []bool) api.LpLight {
	n := d.from(1, 3)
	parts := make([]api.Span, 2*n)
	for i := range parts {
		parts[i] = span(200, 1)
	}
	part := 2 * d.from(0, n-1)
	if !night[0] {
		part++
	}
	all := stretches(night)
	for i, seconds := range all {
		p := &parts[(part+i)%len(parts)]
		p.Hi = max(p.Hi, seconds)
		if i > 0 && i < len(all)-1 {
			p.Lo = min(p.Lo, seconds)
		}
	}
	l := api.LpLight{Name: name}
	for i := range parts {
		parts[i] = d.near(parts[i])
		if i%2 == 1 {
			l.Phases = append(l.Phases, api.LpPhase{Flash: parts[i-1], Dark: parts[i]})
		}
	}
	return l
}

// near is a span of seconds that is nearly another one.
func (d dice) near(s api.Span) api.Span {
	s.Lo = min(s.Lo, s.Hi)
	if d.IntN(6) == 0 {
		s.Hi += d.from(-1, 2)
	}
	if d.IntN(6) == 0 {
		s.Lo += d.from(-2, 1)
	}
	s.Hi = min(200, max(1, s.Hi))
	s.Lo = min(s.Hi, max(1, s.Lo))
	return s
}

// lights are so many random lights, each for a truth of a case.
func (d dice) lights(c api.LpCase, n int) (l []api.LpLight) {
	for i := range n {
		l = append(l, d.light("light-"+string(rune('a'+i)), nightOf(c, d.truth(c))))
	}
	return l
}
