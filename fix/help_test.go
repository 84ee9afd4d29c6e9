package fix_test

import (
	"math"
	"math/bits"
	"math/rand/v2"
	"slices"
	"testing"

	"nore/api"
	"nore/chart"
	"nore/fix"
)

// far are ints far beyond all limits; cut down to 32 bits, some of them are small.
var far = []int{math.MinInt, math.MinInt + 1, -1 << 40, -1<<32 - 1, -1 << 32, -1<<32 + 1, math.MinInt32, math.MaxInt32, 1 << 32, 1<<32 + 1, 1<<32 + 8, 1 << 40, math.MaxInt - 1, math.MaxInt}

func point(x, y int) api.Point { return api.Point{X: x, Y: y} }

// points are places: X and Y of each.
func points(n ...int) (l []api.Point) {
	for i := 0; i+1 < len(n); i += 2 {
		l = append(l, point(n[i], n[i+1]))
	}
	return l
}

func span(lo, hi int) api.Span { return api.Span{Lo: lo, Hi: hi} }

// spans are spans: Lo and Hi of each.
func spans(n ...int) (l []api.Span) {
	for i := 0; i+1 < len(n); i += 2 {
		l = append(l, span(n[i], n[i+1]))
	}
	return l
}

// box is a box: the ends of X and of Y.
func box(a, b, c, d int) api.CtBox { return api.CtBox{X: span(a, b), Y: span(c, d)} }

// mark is a mark with paints, a day and a colour of each; without any it is always white.
func mark(name string, at api.Point, l ...int) api.CtMark {
	m := api.CtMark{Name: name, At: at}
	for i := 0; i+1 < len(l); i += 2 {
		m.Paints = append(m.Paints, api.CtPaint{Day: l[i], Colour: l[i+1]})
	}
	if len(l) == 0 {
		m.Paints = []api.CtPaint{{Colour: api.CtWhite}}
	}
	return m
}

func compass(name string, lo, hi int) api.FxInstrument {
	return api.FxInstrument{Name: name, Off: span(lo, hi)}
}

func lead(name string, lo, hi int) api.FxInstrument {
	return api.FxInstrument{Name: name, Lead: true, Off: span(lo, hi)}
}

// area is an area: the ends of X, of Y and of Depth, and the Ground.
func area(a, b, c, d, from, to, ground int) api.FxArea {
	return api.FxArea{X: span(a, b), Y: span(c, d), Depth: span(from, to), Ground: ground}
}

// bear is a bearing: a mark, what is shown, and by which instrument.
func bear(mark, shown, by int) api.FxSight {
	return api.FxSight{Instrument: by, Mark: mark, Shown: shown}
}

// sound is a sounding: what is shown, the ground, and by which instrument.
func sound(shown, ground, by int) api.FxSight {
	return api.FxSight{Instrument: by, Shown: shown, Ground: ground}
}

func sights(l ...api.FxSight) []api.FxSight { return l }

// example is F of the chapter's examples; A, B and D are its sights.
func example() api.FxFix {
	return api.FxFix{
		Chart:       api.CtChart{Marks: []api.CtMark{mark("church", point(1000, 0)), mark("mill", point(0, 1000))}},
		Day:         5,
		Instruments: []api.FxInstrument{compass("card", 0, 1), lead("line", -2, 2)},
		Areas:       []api.FxArea{area(-500, 0, -500, 500, 100, 110, 1), area(-500, 500, -500, 500, 80, 95, 2)},
		Step:        500,
		Half:        1,
	}
}

var (
	sightA = bear(0, 8, 0)
	sightB = bear(1, 0, 0)
	sightD = sound(96, 0, 1)
)

// plain is a fix with marks and instruments, and no areas.
func plain(step, half int, marks []api.CtMark, instruments ...api.FxInstrument) api.FxFix {
	return api.FxFix{Chart: api.CtChart{Marks: marks}, Instruments: instruments, Step: step, Half: half}
}

func clone(f api.FxFix) api.FxFix {
	f.Chart.Marks = slices.Clone(f.Chart.Marks)
	for i := range f.Chart.Marks {
		f.Chart.Marks[i].Paints = slices.Clone(f.Chart.Marks[i].Paints)
	}
	f.Chart.Sands = slices.Clone(f.Chart.Sands)
	for i := range f.Chart.Sands {
		f.Chart.Sands[i].Corners = slices.Clone(f.Chart.Sands[i].Corners)
	}
	f.Instruments = slices.Clone(f.Instruments)
	f.Areas = slices.Clone(f.Areas)
	return f
}

// same reports whether two fixes are equal.
func same(f, g api.FxFix) bool {
	return slices.EqualFunc(f.Chart.Marks, g.Chart.Marks, func(a, b api.CtMark) bool {
		return a.Name == b.Name && a.At == b.At && slices.Equal(a.Paints, b.Paints)
	}) && slices.EqualFunc(f.Chart.Sands, g.Chart.Sands, func(a, b api.CtSand) bool {
		return a.Name == b.Name && a.Moves == b.Moves && slices.Equal(a.Corners, b.Corners)
	}) && slices.Equal(f.Instruments, g.Instruments) && slices.Equal(f.Areas, g.Areas) && f.Day == g.Day && f.Step == g.Step && f.Half == g.Half
}

// What follows holds the chapter's definitions, as they stand there, against the package.

// gridOf are the places of the grid.
func gridOf(f api.FxFix) (l []api.Point) {
	for x := -f.Half; x <= f.Half; x++ {
		for y := -f.Half; y <= f.Half; y++ {
			l = append(l, point(f.Step*x, f.Step*y))
		}
	}
	return l
}

// standing reports whether a mark stands on the day of the fix.
func standing(f api.FxFix, mark int) bool {
	colour := api.CtGone
	for _, p := range f.Chart.Marks[mark].Paints {
		if p.Day <= f.Day {
			colour = p.Colour
		}
	}
	return colour != api.CtGone
}

// on is a point, and so many points further on.
func on(point, n int) int { return ((point+n)%32 + 32) % 32 }

// areaOf is the index of the area of a place, or -1.
func areaOf(f api.FxFix, at api.Point) int {
	return slices.IndexFunc(f.Areas, func(a api.FxArea) bool {
		return a.X.Lo <= at.X && at.X <= a.X.Hi && a.Y.Lo <= at.Y && at.Y <= a.Y.Hi
	})
}

// oracle is a fix, and in which point each mark is seen from places.
type oracle struct {
	api.FxFix
	seen map[[3]int]int
}

func oracleOf(f api.FxFix) oracle { return oracle{f, map[[3]int]int{}} }

// seenFrom is the point in which a mark is seen, or -1 if it is just there.
func (o oracle) seenFrom(mark int, at api.Point) int {
	key := [3]int{mark, at.X, at.Y}
	p, known := o.seen[key]
	if !known {
		q, e := chart.Seen(o.Chart, o.Day, mark, at)
		if e != api.OK {
			q = -1
		}
		p, o.seen[key] = q, q
	}
	return p
}

// fits reports whether a place agrees with a sight if the instrument is off by a number.
func (o oracle) fits(s api.FxSight, at api.Point, off int) bool {
	if !o.Instruments[s.Instrument].Lead {
		p := o.seenFrom(s.Mark, at)
		return p >= 0 && on(p, off) == s.Shown
	}
	i := areaOf(o.FxFix, at)
	if i < 0 {
		return true
	}
	if s.Ground != 0 && s.Ground != o.Areas[i].Ground {
		return false
	}
	for depth := o.Areas[i].Depth.Lo; depth <= o.Areas[i].Depth.Hi; depth++ {
		if depth+off == s.Shown {
			return true
		}
	}
	return false
}

// offs are the least and the greatest number of each instrument with which a place agrees with its sights; none, if it does not.
func (o oracle) offs(l []api.FxSight, at api.Point) (r []api.Span) {
	for i, x := range o.Instruments {
		var can []int
		for off := x.Off.Lo; off <= x.Off.Hi; off++ {
			if !slices.ContainsFunc(l, func(s api.FxSight) bool { return s.Instrument == i && !o.fits(s, at, off) }) {
				can = append(can, off)
			}
		}
		if len(can) == 0 {
			return nil
		}
		r = append(r, span(can[0], can[len(can)-1]))
	}
	return r
}

// places are the places of the grid that agree.
func (o oracle) places(l []api.FxSight) (r []api.Point) {
	for _, at := range gridOf(o.FxFix) {
		if len(o.offs(l, at)) > 0 {
			r = append(r, at)
		}
	}
	return r
}

// without are the sights but bearings of some marks, and sights by some instruments.
func (o oracle) without(l []api.FxSight, marks, instruments []int) (r []api.FxSight) {
	for _, s := range l {
		bearing := !o.Instruments[s.Instrument].Lead
		if !slices.Contains(instruments, s.Instrument) && !(bearing && slices.Contains(marks, s.Mark)) {
			r = append(r, s)
		}
	}
	return r
}

// lists are the marks and the instruments whose bits are set, and both as one list.
func (o oracle) lists(set uint) (marks, instruments, both []int) {
	for i := range o.Chart.Marks {
		if set>>i&1 == 1 {
			marks = append(marks, i)
			both = append(both, i)
		}
	}
	for i := range o.Instruments {
		if k := len(o.Chart.Marks) + i; set>>k&1 == 1 {
			instruments = append(instruments, i)
			both = append(both, k)
		}
	}
	return marks, instruments, both
}

// wrong goes through all lists of things.
func (o oracle) wrong(l []api.FxSight) (marks, instruments []int) {
	least, best := -1, []int(nil)
	for set := range uint(1) << (len(o.Chart.Marks) + len(o.Instruments)) {
		n := bits.OnesCount(set)
		if least >= 0 && n > least {
			continue
		}
		a, b, both := o.lists(set)
		if least == n && slices.Compare(both, best) > 0 || len(o.places(o.without(l, a, b))) == 0 {
			continue
		}
		least, best, marks, instruments = n, both, a, b
	}
	return marks, instruments
}

// left is the greatest number of places that a further bearing leaves.
func (o oracle) left(l []api.FxSight, mark, instrument int) (most int) {
	for shown := range 32 {
		most = max(most, len(o.places(append(slices.Clone(l), bear(mark, shown, instrument)))))
	}
	return most
}

// ask is what Ask should return.
func (o oracle) ask(l []api.FxSight) (mark, instrument, left int, e api.Errno) {
	if len(l) == 8 {
		return 0, 0, 0, api.ErrLong
	}
	if len(o.places(l)) == 0 {
		return 0, 0, 0, api.ErrDown
	}
	left = -1
	for m := range o.Chart.Marks {
		for i, x := range o.Instruments {
			if x.Lead || !standing(o.FxFix, m) {
				continue
			}
			if n := o.left(l, m, i); left < 0 || n < left {
				mark, instrument, left = m, i, n
			}
		}
	}
	if left < 0 {
		return 0, 0, 0, api.ErrNone
	}
	return mark, instrument, left, api.OK
}

// mustPlaces is what Places returns, which has to be without an error.
func mustPlaces(t *testing.T, f api.FxFix, l []api.FxSight) []api.Point {
	t.Helper()
	r, e := fix.Places(f, l)
	if e != api.OK {
		t.Fatalf("Places of %v with %v = error %d", f, l, e)
	}
	return r
}

// mustWrong is what Wrong returns, which has to be without an error.
func mustWrong(t *testing.T, f api.FxFix, l []api.FxSight) (marks, instruments []int) {
	t.Helper()
	marks, instruments, e := fix.Wrong(f, l)
	if e != api.OK {
		t.Fatalf("Wrong of %v with %v = error %d", f, l, e)
	}
	return marks, instruments
}

// dice are random numbers, the same ones in each run.
type dice struct{ *rand.Rand }

func newDice(seed uint64) dice { return dice{rand.New(rand.NewPCG(seed, 2))} }

// from is a number from lo to hi.
func (d dice) from(lo, hi int) int { return lo + d.IntN(hi-lo+1) }

// span is a span within two numbers.
func (d dice) span(lo, hi int) api.Span {
	a := d.from(lo, hi)
	return span(a, d.from(a, hi))
}

// place is a place near the grid, mostly one of it.
func (d dice) place(f api.FxFix) api.Point {
	at := point(f.Step*d.from(-f.Half-1, f.Half+1), f.Step*d.from(-f.Half-1, f.Half+1))
	if d.IntN(4) == 0 {
		at = point(at.X+d.from(-f.Step, f.Step), at.Y+d.from(-f.Step, f.Step))
	}
	return at
}

func letters(word string, i int) string { return word + "-" + string(rune('a'+i)) }

// fix is a random fix with a grid up to half, up to so many marks, and instruments with so wide an Off; some marks do not stand.
func (d dice) fix(half, marks, wide int) api.FxFix {
	f := api.FxFix{Day: d.from(0, 100), Step: []int{1, 3, 100, 500}[d.IntN(4)], Half: d.from(0, half)}
	for i := range d.from(0, marks) {
		at := d.place(f)
		if d.IntN(3) == 0 {
			at = point(at.X*5, at.Y*5+d.from(-3, 3))
		}
		m := mark(letters("mark", i), at)
		if d.IntN(6) == 0 {
			m.Paints = []api.CtPaint{{Day: f.Day + d.from(-1, 1) + 1, Colour: d.from(0, 4)}}
		}
		f.Chart.Marks = append(f.Chart.Marks, m)
	}
	for i := range d.from(1, 4) {
		x := compass(letters("tool", i), 0, 0)
		most := api.MaxFxOff
		if d.IntN(3) == 0 {
			x.Lead, most = true, api.MaxFxLead
		}
		lo := d.from(-most, most)
		x.Off = span(lo, min(most, lo+d.from(0, wide)))
		f.Instruments = append(f.Instruments, x)
	}
	for range d.from(0, 6) {
		a, b := d.place(f), d.place(f)
		depth := d.from(20, 60)
		f.Areas = append(f.Areas, area(min(a.X, b.X), max(a.X, b.X), min(a.Y, b.Y), max(a.Y, b.Y), depth, depth+d.from(0, 20), d.from(1, 4)))
	}
	return f
}

// truth is where the ship is on the grid, and by what each instrument is off.
func (d dice) truth(f api.FxFix) (at api.Point, offs []int) {
	grid := gridOf(f)
	for _, x := range f.Instruments {
		offs = append(offs, d.from(x.Off.Lo, x.Off.Hi))
	}
	return grid[d.IntN(len(grid))], offs
}

// trueSight is a random sight that shows what is true, if there is one.
func (d dice) trueSight(f api.FxFix, at api.Point, offs []int) (api.FxSight, bool) {
	i := d.IntN(len(f.Instruments))
	if f.Instruments[i].Lead {
		a := areaOf(f, at)
		if a < 0 {
			return sound(d.from(0, 1000), d.from(0, 4), i), true
		}
		s := sound(d.from(f.Areas[a].Depth.Lo, f.Areas[a].Depth.Hi)+offs[i], d.IntN(2)*f.Areas[a].Ground, i)
		return s, s.Shown >= 0 && s.Shown <= 1000
	}
	if len(f.Chart.Marks) == 0 {
		return api.FxSight{}, false
	}
	m := d.IntN(len(f.Chart.Marks))
	p, e := chart.Seen(f.Chart, f.Day, m, at)
	return bear(m, on(p, offs[i]), i), e == api.OK
}

// falseSight is a random sight that shows anything, if there is one.
func (d dice) falseSight(f api.FxFix) (api.FxSight, bool) {
	i := d.IntN(len(f.Instruments))
	if f.Instruments[i].Lead {
		return sound(d.from(0, 90), d.from(0, 4), i), true
	}
	if len(f.Chart.Marks) == 0 {
		return api.FxSight{}, false
	}
	m := d.IntN(len(f.Chart.Marks))
	return bear(m, d.from(0, 31), i), standing(f, m)
}

// sights are up to n random sights, most of which show what is true at a place; so many per cent need not.
func (d dice) sights(f api.FxFix, n, wrong int) (l []api.FxSight) {
	at, offs := d.truth(f)
	for range d.from(0, n) {
		s, ok := d.trueSight(f, at, offs)
		if d.IntN(100) < wrong {
			s, ok = d.falseSight(f)
		}
		if ok {
			l = append(l, s)
		}
	}
	return l
}
