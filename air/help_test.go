package air_test

import (
	"math"
	"math/rand/v2"
	"slices"

	"nore/api"
	"nore/chart"
)

// far are ints far beyond all limits; cut down to 32 bits, some of them are small.
var far = []int{math.MinInt, math.MinInt + 1, -1 << 40, -1<<32 - 1, -1 << 32, -1<<32 + 1, math.MinInt32, math.MaxInt32, 1 << 32, 1<<32 + 1, 1<<32 + 8, 1 << 40, math.MaxInt - 1, math.MaxInt}

func span(lo, hi int) api.Span { return api.Span{Lo: lo, Hi: hi} }

func place(x, y int) api.Point { return api.Point{X: x, Y: y} }

func grade(name string, lo, hi, oil int) api.AiGrade {
	return api.AiGrade{Name: name, Candles: span(lo, hi), Oil: oil}
}

// saw, dark, heard and still are reports: that the light was seen, or not, and that the horn was heard, or not.
func saw(x, y int) api.AiReport { return api.AiReport{At: place(x, y), Yes: true} }

func dark(x, y int) api.AiReport { return api.AiReport{At: place(x, y)} }

func heard(x, y int) api.AiReport { return api.AiReport{At: place(x, y), Horn: true, Yes: true} }

func still(x, y int) api.AiReport { return api.AiReport{At: place(x, y), Horn: true} }

// scene is a station on a night, with reports.
type scene struct {
	s api.AiStation
	n api.AiNight
	l []api.AiReport
}

// example is S and N of the chapter's examples, with reports.
func example(l ...api.AiReport) scene {
	return scene{
		s: api.AiStation{Grades: []api.AiGrade{grade("sperm", 400, 420, 60), grade("rape", 100, 100, 40)}, Loud: span(20, 30), Clear: span(50, 120)},
		n: api.AiNight{Wind: 8, Winds: 1},
		l: l,
	}
}

// reportA, reportB and reportH are those of the chapter's examples.
func reportA() api.AiReport { return saw(0, 10000) }

func reportB() api.AiReport { return dark(13000, 0) }

func reportH() api.AiReport { return heard(3500, 0) }

// lamp is a scene with just these candles and this number of Clear.
func lamp(candles, clear api.Span, l ...api.AiReport) scene {
	return scene{
		s: api.AiStation{Grades: []api.AiGrade{{Name: "oil", Candles: candles}}, Loud: span(1, 1), Clear: clear},
		n: api.AiNight{Winds: 1},
		l: l,
	}
}

// horn is a scene with just these numbers of Loud, and these winds.
func horn(loud api.Span, wind, winds int, l ...api.AiReport) scene {
	return scene{
		s: api.AiStation{Grades: []api.AiGrade{grade("oil", 1, 1, 0)}, Loud: loud, Clear: span(1, 1)},
		n: api.AiNight{Wind: wind, Winds: winds},
		l: l,
	}
}

// with is a scene with further reports.
func with(c scene, further ...api.AiReport) scene {
	c.l = append(slices.Clone(c.l), further...)
	return c
}

// without is a scene without the reports whose indices are in a list.
func without(c scene, list []int) scene {
	var l []api.AiReport
	for i, r := range c.l {
		if !slices.Contains(list, i) {
			l = append(l, r)
		}
	}
	c.l = l
	return c
}

func clone(c scene) scene {
	c.s.Grades, c.l = slices.Clone(c.s.Grades), slices.Clone(c.l)
	return c
}

// same reports whether two scenes are equal.
func same(a, b scene) bool {
	return slices.Equal(a.s.Grades, b.s.Grades) && a.s.Loud == b.s.Loud && a.s.Clear == b.s.Clear && a.n == b.n && slices.Equal(a.l, b.l)
}

// What follows holds the chapter's definitions, as they stand there, against the package.

func within(lo, n, hi int) bool { return lo <= n && n <= hi }

// minus is the vector from one place to another one.
func minus(to, from api.Point) api.Point { return place(to.X-from.X, to.Y-from.Y) }

// square is the square of the distance of a vector.
func square(v api.Point) int { return v.X*v.X + v.Y*v.Y }

// seen reports whether a light is seen at a vector.
func seen(v api.Point, candles, clear int) bool {
	length := float64(clear * 100)
	for range int(math.Sqrt(float64(square(v))) / length) { // exact: a root that is not whole is far enough from a whole number
		candles /= 2
	}
	return candles*1000000 >= square(v)
}

// vectors are those of the points of the compass; behind the last one comes the first one again.
func vectors() (l [33]api.Point) {
	for p := range l {
		l[p], _ = chart.Vector(p % 32)
	}
	return l
}

// leftOf is above 0 if v is to the left of along.
func leftOf(along, v api.Point) int { return along.X*v.Y - along.Y*v.X }

// pointOf is the point in which a place is seen to which a vector leads.
func pointOf(v api.Point) int {
	all := vectors()
	for p := range 32 {
		if leftOf(all[p], v) <= 0 && leftOf(all[p+1], v) > 0 {
			return p
		}
	}
	panic("a vector in no point")
}

// between is how many points there are from one to another one, whichever way round is shorter.
func between(a, b int) int {
	n := 0
	for (a+n)%32 != b && (b+n)%32 != a {
		n++
	}
	return n
}

// carries is how far a horn is heard toward a point.
func carries(loud, wind, point int) int { return loud * (1400 - 50*between(point, wind)) / 10 }

// hears reports whether a horn is heard at a vector.
func hears(v api.Point, loud, wind int) bool {
	if v == place(0, 0) {
		return true
	}
	metres := carries(loud, wind, pointOf(v))
	return square(v) <= metres*metres
}

// truth is one of the light: candles and Clear; or of the horn: Loud and the point toward which the wind blows.
type truth struct {
	horn bool
	a, b int
}

// meets reports whether the light is seen, or the horn heard, at a vector.
func (t truth) meets(v api.Point) bool {
	if t.horn {
		return hears(v, t.a, t.b)
	}
	return seen(v, t.a, t.b)
}

// truthsOf are all truths of the horn, or of the light.
func truthsOf(c scene, horn bool) (all []truth) {
	if horn {
		for loud := c.s.Loud.Lo; loud <= c.s.Loud.Hi; loud++ {
			for k := range c.n.Winds {
				all = append(all, truth{true, loud, (c.n.Wind + k) % 32})
			}
		}
		return all
	}
	g := c.s.Grades[c.n.Grade]
	for candles := g.Candles.Lo; candles <= g.Candles.Hi; candles++ {
		for clear := c.s.Clear.Lo; clear <= c.s.Clear.Hi; clear++ {
			all = append(all, truth{false, candles, clear})
		}
	}
	return all
}

// agrees reports whether a truth agrees with all reports of it.
func agrees(c scene, t truth) bool {
	for _, r := range c.l {
		if r.Horn == t.horn && r.Yes != t.meets(minus(r.At, c.n.At)) {
			return false
		}
	}
	return true
}

// agreeing are the truths that agree with all reports.
func agreeing(c scene, horn bool) (all []truth) {
	for _, t := range truthsOf(c, horn) {
		if agrees(c, t) {
			all = append(all, t)
		}
	}
	return all
}

// hull is the least span with all numbers.
func hull(numbers []int) api.Span { return span(slices.Min(numbers), slices.Max(numbers)) }

// parts are the first, and the second numbers of truths.
func parts(all []truth) (a, b []int) {
	for _, t := range all {
		a, b = append(a, t.a), append(b, t.b)
	}
	return a, b
}

// clearOf is what Clear returns.
func clearOf(c scene) (candles, clear api.Span, e api.Errno) {
	all := agreeing(c, false)
	if len(all) == 0 {
		return span(0, 0), span(0, 0), api.ErrDown
	}
	a, b := parts(all)
	return hull(a), hull(b), api.OK
}

// windsOf is what Winds returns.
func windsOf(c scene) (loud api.Span, winds []int, e api.Errno) {
	all := agreeing(c, true)
	if len(all) == 0 {
		return span(0, 0), nil, api.ErrDown
	}
	a, b := parts(all)
	slices.Sort(b)
	return hull(a), slices.Compact(b), api.OK
}

// couldOf is what Could returns.
func couldOf(c scene, at api.Point, horn bool) (int, api.Errno) {
	all := agreeing(c, horn)
	met := 0
	for _, t := range all {
		if t.meets(minus(at, c.n.At)) {
			met++
		}
	}
	switch {
	case len(all) == 0:
		return 0, api.ErrDown
	case met == len(all):
		return 2, api.OK
	case met == 0:
		return 0, api.OK
	}
	return 1, api.OK
}

// reachOf is the reach of a truth of the light. Beyond 1000 metres for each root of the candles it is not seen in any air.
func reachOf(t truth) int {
	metres := min(60000, int(1000*math.Sqrt(float64(t.a)))+1)
	for !t.meets(place(metres, 0)) {
		metres--
	}
	return metres
}

// farOf is what Far returns.
func farOf(c scene) (sure, some int, e api.Errno) {
	all := agreeing(c, false)
	if len(all) == 0 {
		return 0, 0, api.ErrDown
	}
	var reaches []int
	for _, t := range all {
		reaches = append(reaches, reachOf(t))
	}
	return slices.Min(reaches), slices.Max(reaches), api.OK
}

// does reports whether a grade does for so many metres, by all of its own candles.
func does(c scene, grade, metres int, all []truth) bool {
	for _, t := range all {
		candles := c.s.Grades[grade].Candles
		if grade == c.n.Grade {
			candles = span(t.a, t.a)
		}
		for n := candles.Lo; n <= candles.Hi; n++ {
			if !seen(place(metres, 0), n, t.b) {
				return false
			}
		}
	}
	return true
}

// gradeOf is what Grade returns.
func gradeOf(c scene, metres int) (int, api.Errno) {
	all := agreeing(c, false)
	best := -1
	for i, g := range c.s.Grades {
		if len(all) > 0 && (best < 0 || g.Oil < c.s.Grades[best].Oil) && does(c, i, metres, all) {
			best = i
		}
	}
	if best < 0 {
		return 0, api.ErrDown
	}
	return best, api.OK
}

// picked are the indices, of so many, whose bits are set.
func picked(set uint, n int) (l []int) {
	for i := range n {
		if set>>i&1 == 1 {
			l = append(l, i)
		}
	}
	return l
}

// before reports whether a list is shorter than another one, or as long and, number by number, first.
func before(a, b []int) bool {
	if len(a) != len(b) {
		return len(a) < len(b)
	}
	return slices.Compare(a, b) < 0
}

// some reports whether light and horn have truths.
func some(c scene) bool {
	for _, horn := range []bool{false, true} {
		if !slices.ContainsFunc(truthsOf(c, horn), func(t truth) bool { return agrees(c, t) }) {
			return false
		}
	}
	return true
}

// falseOf goes through all lists of reports.
func falseOf(c scene) (best []int) {
	found := false
	for set := range uint(1) << len(c.l) {
		if list := picked(set, len(c.l)); (!found || before(list, best)) && some(without(c, list)) {
			best, found = list, true
		}
	}
	return best
}

// dice are random numbers, the same ones in each run.
type dice struct{ *rand.Rand }

func newDice(seed uint64) dice { return dice{rand.New(rand.NewPCG(seed, 6))} }

// from is a number from lo to hi.
func (d dice) from(lo, hi int) int { return lo + d.IntN(hi-lo+1) }

// in is a number from a span.
func (d dice) in(s api.Span) int { return d.from(s.Lo, s.Hi) }

// span is a random span from 1 to hi that is at most so wide.
func (d dice) span(hi, wide int) api.Span {
	lo := d.from(1, hi)
	return span(lo, min(hi, lo+d.from(0, wide)))
}

// station is a random station, whose spans have at most so many numbers, and one more.
func (d dice) station(wide int) api.AiStation {
	var s api.AiStation
	for i := range d.from(1, 4) {
		candles := d.span([]int{10, 300, 1000, 5000}[d.IntN(4)], min(40, wide))
		s.Grades = append(s.Grades, api.AiGrade{Name: "grade-" + string(rune('a'+i)), Candles: candles, Oil: d.from(1, 6)})
	}
	s.Loud, s.Clear = d.span(200, wide), d.span([]int{20, 100, 300}[d.IntN(3)], wide)
	return s
}

// scene is a random scene without reports.
func (d dice) scene(wide int) scene {
	c := scene{s: d.station(wide)}
	c.n = api.AiNight{At: place(d.from(-2000, 2000), d.from(-2000, 2000)), Grade: d.from(0, len(c.s.Grades)-1), Wind: d.from(0, 31), Winds: d.from(1, []int{1, 5, 32}[d.IntN(3)])}
	return c
}

// truth is a random truth of the horn, or of the light.
func (d dice) truth(c scene, horn bool) truth {
	if horn {
		return truth{true, d.in(c.s.Loud), (c.n.Wind + d.from(0, c.n.Winds-1)) % 32}
	}
	return truth{false, d.in(c.s.Grades[c.n.Grade].Candles), d.in(c.s.Clear)}
}

// toward is a place as far from another one, in about this direction, as can be; nearer if it would be too far from the charted place.
func toward(from api.Point, metres int, angle float64) api.Point {
	limit := func(n int) int { return min(30000, max(-30000, n)) }
	return place(limit(from.X+int(float64(metres)*math.Cos(angle))), limit(from.Y+int(float64(metres)*math.Sin(angle))))
}

// edge is a place at about which the light of a truth can just be seen, or the horn heard.
func (d dice) edge(c scene, t truth) api.Point {
	angle := d.Float64() * 2 * math.Pi
	if d.IntN(4) == 0 { // along an axis all is whole
		angle = float64(d.from(0, 3)) * math.Pi / 2
	}
	metres := 0
	if t.horn {
		v := toward(place(0, 0), 10000, angle)
		metres = carries(t.a, t.b, pointOf(v))
	} else {
		metres = reachOf(t)
	}
	return toward(c.n.At, max(0, metres+[]int{d.from(-2, 2), d.from(-300, 300), d.from(-metres, metres)}[d.IntN(3)]), angle)
}

// reports are so many random reports of two truths; so many per cent of them are false.
func (d dice) reports(c scene, light, horn truth, n, untrue int) (l []api.AiReport) {
	for range n {
		t := light
		if d.IntN(2) == 0 {
			t = horn
		}
		about := d.truth(c, t.horn)
		at := d.edge(c, about)
		l = append(l, api.AiReport{At: at, Horn: t.horn, Yes: t.meets(minus(at, c.n.At)) != (d.IntN(100) < untrue)})
	}
	return l
}

// told is a random scene with at most so many reports, so many per cent of which are false, and the truths of which the others are.
func (d dice) told(wide, reports, untrue int) (c scene, light, horn truth) {
	c = d.scene(wide)
	light, horn = d.truth(c, false), d.truth(c, true)
	c.l = d.reports(c, light, horn, d.from(0, reports), untrue)
	return c, light, horn
}
