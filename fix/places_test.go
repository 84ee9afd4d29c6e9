package fix_test

import (
	"fmt"
	"slices"
	"testing"

	"nore/api"
	"nore/fix"
)

// expectPlaces tells if Places or Where do not return these places, and the box of them.
func expectPlaces(t *testing.T, what string, f api.FxFix, l []api.FxSight, want []api.Point) {
	t.Helper()
	if r, e := fix.Places(f, l); !slices.Equal(r, want) || e != api.OK {
		t.Errorf("%s: Places with %v = %v, %d; they should be %v", what, l, r, e, want)
	}
	var b api.CtBox
	e := api.ErrDown
	if len(want) > 0 {
		b, e = boxOf(want), api.OK
	}
	if r, g := fix.Where(f, l); r != b || g != e {
		t.Errorf("%s: Where with %v = %v, %d; it should be %v, %d", what, l, r, g, b, e)
	}
}

// boxOf is the least box in which places are.
func boxOf(l []api.Point) api.CtBox {
	var x, y []int
	for _, p := range l {
		x = append(x, p.X)
		y = append(y, p.Y)
	}
	return box(slices.Min(x), slices.Max(x), slices.Min(y), slices.Max(y))
}

// expectOffs tells if Offs does not return these spans; none stand for ErrDown.
func expectOffs(t *testing.T, what string, f api.FxFix, l []api.FxSight, at api.Point, want []api.Span) {
	t.Helper()
	e := api.ErrDown
	if len(want) > 0 {
		e = api.OK
	}
	if r, g := fix.Offs(f, l, at); !slices.Equal(r, want) || g != e {
		t.Errorf("%s: Offs at %v with %v = %v, %d; they should be %v, %d", what, at, l, r, g, want, e)
	}
}

// P2.3, P2.4: the examples.
func TestExamples(t *testing.T) {
	f := example()
	expectPlaces(t, "A", f, sights(sightA), points(-500, 0, 0, 0, 500, 0))
	expectPlaces(t, "A and B", f, sights(sightA, sightB), points(0, 0))
	expectPlaces(t, "A and D", f, sights(sightA, sightD), points(500, 0))
	expectOffs(t, "A and B", f, sights(sightA, sightB), point(0, 0), spans(0, 0, -2, 2))
	expectOffs(t, "A", f, sights(sightA), point(-500, 500), nil)
	if b, e := fix.Where(f, sights(sightA)); b != box(-500, 500, 0, 0) || e != api.OK {
		t.Errorf("Where with A = %v, %d", b, e)
	}
}

// P2.4: all places of the grid, in their order, if there is no sight.
func TestGrid(t *testing.T) {
	for _, step := range []int{1, 2, 499, 500} {
		for half := range 9 {
			f := plain(step, half, nil, compass("card", 0, 0))
			expectPlaces(t, fmt.Sprint("step ", step, " half ", half), f, nil, gridOf(f))
			expectPlaces(t, "empty", f, []api.FxSight{}, gridOf(f))
		}
	}
	f := plain(500, 1, nil, compass("card", 0, 0))
	expectPlaces(t, "nine places", f, nil, points(-500, -500, -500, 0, -500, 500, 0, -500, 0, 0, 0, 500, 500, -500, 500, 0, 500, 500))
	f.Half = 8
	if b, e := fix.Where(f, nil); b != box(-4000, 4000, -4000, 4000) || e != api.OK {
		t.Errorf("Where of the greatest grid = %v, %d", b, e)
	}
}

// P2.3: places of which Offs is asked are whole ones up to MaxFar, in the grid or not.
func TestOffsRange(t *testing.T) {
	f := example()
	for _, n := range append([]int{-30001, -30000, -1, 0, 7, 30000, 30001}, far...) {
		for _, at := range points(n, 0, 0, n, n, n, n, -30000, 30000, n) {
			if n < -30000 || n > 30000 {
				for _, l := range [][]api.FxSight{nil, sights(bear(0, 20, 0), sound(0, 3, 1))} {
					if o, e := fix.Offs(f, l, at); len(o) != 0 || e != api.ErrRange {
						t.Errorf("Offs at %v = %v, %d", at, o, e)
					}
				}
				continue
			}
			expectOffs(t, "no sights", f, nil, at, spans(0, 1, -2, 2))
		}
	}
	expectOffs(t, "beside the grid", f, sights(bear(0, 0, 0)), point(1000, -1), spans(0, 0, -2, 2))
	expectOffs(t, "beside the grid", f, sights(bear(0, 1, 0)), point(1000, -1), spans(1, 1, -2, 2))
	expectOffs(t, "far", f, sights(bear(0, 24, 0)), point(30000, 0), spans(0, 0, -2, 2))
	expectOffs(t, "far", f, sights(bear(0, 26, 0)), point(30000, 0), nil)
}

// P2.3: an instrument without sights has its whole Off; one of a single number that, or nothing.
func TestOffsOfOne(t *testing.T) {
	f := plain(100, 2, []api.CtMark{mark("east", point(5000, 0))}, compass("card", -4, 4), compass("sure", 2, 2), lead("line", -20, 20), lead("pole", -3, -3))
	f.Areas = []api.FxArea{area(-200, 200, -200, 200, 50, 60, 2)}
	at := point(0, 0)
	expectOffs(t, "no sights", f, nil, at, spans(-4, 4, 2, 2, -20, 20, -3, -3))
	expectOffs(t, "card", f, sights(bear(0, 11, 0)), at, spans(3, 3, 2, 2, -20, 20, -3, -3))
	expectOffs(t, "card at its end", f, sights(bear(0, 4, 0)), at, spans(-4, -4, 2, 2, -20, 20, -3, -3))
	expectOffs(t, "card at its other end", f, sights(bear(0, 12, 0)), at, spans(4, 4, 2, 2, -20, 20, -3, -3))
	expectOffs(t, "card below its end", f, sights(bear(0, 3, 0)), at, nil)
	expectOffs(t, "card above its end", f, sights(bear(0, 13, 0)), at, nil)
	expectOffs(t, "card twice", f, sights(bear(0, 11, 0), bear(0, 12, 0)), at, nil)
	expectOffs(t, "sure", f, sights(bear(0, 10, 1)), at, spans(-4, 4, 2, 2, -20, 20, -3, -3))
	expectOffs(t, "sure is not off by 1", f, sights(bear(0, 9, 1)), at, nil)
	expectOffs(t, "sure is not off by 3", f, sights(bear(0, 11, 1)), at, nil)
	expectOffs(t, "both", f, sights(bear(0, 10, 1), bear(0, 7, 0)), at, spans(-1, -1, 2, 2, -20, 20, -3, -3))
	expectOffs(t, "line", f, sights(sound(55, 0, 2)), at, spans(-4, 4, 2, 2, -5, 5, -3, -3))
	expectOffs(t, "line at its end", f, sights(sound(35, 0, 2)), at, spans(-4, 4, 2, 2, -20, -15, -3, -3))
	expectOffs(t, "line at its other end", f, sights(sound(75, 0, 2)), at, spans(-4, 4, 2, 2, 15, 20, -3, -3))
	expectOffs(t, "line, one number", f, sights(sound(30, 0, 2)), at, spans(-4, 4, 2, 2, -20, -20, -3, -3))
	expectOffs(t, "line, the other number", f, sights(sound(80, 0, 2)), at, spans(-4, 4, 2, 2, 20, 20, -3, -3))
	expectOffs(t, "line below", f, sights(sound(29, 0, 2)), at, nil)
	expectOffs(t, "line above", f, sights(sound(81, 0, 2)), at, nil)
	expectOffs(t, "line twice", f, sights(sound(55, 0, 2), sound(63, 2, 2)), at, spans(-4, 4, 2, 2, 3, 5, -3, -3))
	expectOffs(t, "line twice, one number", f, sights(sound(55, 0, 2), sound(65, 2, 2)), at, spans(-4, 4, 2, 2, 5, 5, -3, -3))
	expectOffs(t, "line twice, none", f, sights(sound(55, 0, 2), sound(66, 2, 2)), at, nil)
	expectOffs(t, "pole", f, sights(sound(47, 0, 3)), at, spans(-4, 4, 2, 2, -20, 20, -3, -3))
	expectOffs(t, "pole", f, sights(sound(57, 2, 3)), at, spans(-4, 4, 2, 2, -20, 20, -3, -3))
	expectOffs(t, "pole below", f, sights(sound(46, 0, 3)), at, nil)
	expectOffs(t, "pole above", f, sights(sound(58, 0, 3)), at, nil)
	expectOffs(t, "another ground", f, sights(sound(55, 1, 2)), at, nil)
	expectOffs(t, "its number is the same for both marks", plain(1, 0, []api.CtMark{mark("east", point(9, 0)), mark("west", point(-9, 0))}, compass("card", -4, 4)), sights(bear(0, 6, 0), bear(1, 22, 0)), at, spans(-2, -2))
	expectOffs(t, "another number for each mark", plain(1, 0, []api.CtMark{mark("east", point(9, 0)), mark("west", point(-9, 0))}, compass("card", -4, 4)), sights(bear(0, 6, 0), bear(1, 23, 0)), at, nil)
}

// P2.3: bearings go round, past 31 and below 0.
func TestRound(t *testing.T) {
	north, west := mark("north", point(0, 9000)), mark("west", point(-1500, 9000))
	for n := -4; n <= 4; n++ {
		f := plain(1, 0, []api.CtMark{north, west}, compass("card", -4, 4))
		expectOffs(t, "north", f, sights(bear(0, on(0, n), 0)), point(0, 0), spans(n, n))
		expectOffs(t, "nearly north", f, sights(bear(1, on(31, n), 0)), point(0, 0), spans(n, n))
		f.Instruments[0].Off = span(n, n)
		for shown := range 32 {
			var a, b []api.Span
			if shown == (32+n)%32 {
				a = spans(n, n)
			}
			if shown == (31+n)%32 {
				b = spans(n, n)
			}
			expectOffs(t, "north", f, sights(bear(0, shown, 0)), point(0, 0), a)
			expectOffs(t, "nearly north", f, sights(bear(1, shown, 0)), point(0, 0), b)
		}
	}
}

// P2.3, P2.4: a place at which a mark just is does not agree with a bearing of it, whatever that shows.
func TestAtTheMark(t *testing.T) {
	f := plain(10, 1, []api.CtMark{mark("here", point(10, 0)), mark("north", point(10, 900))}, compass("card", -4, 4))
	for shown := range 32 {
		expectOffs(t, "here", f, sights(bear(0, shown, 0)), point(10, 0), nil)
		l := mustPlaces(t, f, sights(bear(0, shown, 0)))
		if slices.Contains(l, point(10, 0)) {
			t.Errorf("Places with %d = %v", shown, l)
		}
	}
	expectOffs(t, "another mark", f, sights(bear(1, 2, 0)), point(10, 0), spans(2, 2))
	f.Half = 0
	f.Chart.Marks[0].At = point(0, 0)
	expectPlaces(t, "no other place", f, sights(bear(0, 0, 0)), nil)
	expectPlaces(t, "no sight of it", f, sights(bear(1, 0, 0)), points(0, 0))
}

// P2.3, P2.4: the area of a place is the first one that has it, with its edges; a place in none agrees with every sounding.
func TestAreas(t *testing.T) {
	f := plain(10, 2, nil, lead("line", 0, 0))
	f.Areas = []api.FxArea{area(-10, 0, -10, 20, 30, 30, 1), area(0, 10, -20, 10, 40, 40, 2), area(-20, 20, -10, -10, 50, 50, 3)}
	depths := map[api.Point]int{}
	for _, at := range gridOf(f) {
		switch {
		case at.X >= -10 && at.X <= 0 && at.Y >= -10:
			depths[at] = 30
		case at.X >= 0 && at.X <= 10 && at.Y <= 10:
			depths[at] = 40
		case at.Y == -10:
			depths[at] = 50
		}
	}
	for _, shown := range []int{29, 30, 31, 40, 50, 1000} {
		for ground := range 5 {
			var want []api.Point
			for _, at := range gridOf(f) {
				d := depths[at]
				if d == 0 || d == shown && (ground == 0 || ground == d/10-2) {
					want = append(want, at)
				}
			}
			expectPlaces(t, "areas", f, sights(sound(shown, ground, 0)), want)
		}
	}
	for _, c := range []struct {
		at    api.Point
		shown int
		can   bool
	}{
		{point(0, -10), 30, true}, {point(0, -10), 40, false}, {point(0, -11), 40, true}, {point(0, -11), 30, false}, {point(0, 20), 30, true}, {point(0, 21), 30, true}, {point(0, 21), 7, true},
		{point(-10, 20), 30, true}, {point(-10, 20), 31, false}, {point(-11, 20), 31, true}, {point(-11, -10), 50, true}, {point(-11, -10), 30, false}, {point(-11, -9), 30, true}, {point(-11, -11), 1, true},
		{point(10, 10), 40, true}, {point(10, 10), 50, false}, {point(11, 10), 41, true}, {point(10, 11), 41, true}, {point(1, 11), 30, true}, {point(20, -10), 50, true}, {point(20, -10), 49, false}, {point(21, -10), 49, true}, {point(10, -20), 40, true}, {point(10, -20), 41, false}, {point(10, -21), 41, true},
	} {
		var want []api.Span
		if c.can {
			want = spans(0, 0)
		}
		expectOffs(t, "areas", f, sights(sound(c.shown, 0, 0)), c.at, want)
	}
	f.Areas = nil
	expectPlaces(t, "no areas", f, sights(sound(1000, 4, 0), sound(0, 1, 0)), gridOf(f))
	expectOffs(t, "no areas", f, sights(sound(1000, 4, 0), sound(0, 1, 0)), point(0, 0), spans(0, 0))
}

// P2.3, P2.4: depths and soundings at the ends of their ranges.
func TestDepths(t *testing.T) {
	f := plain(1, 0, nil, lead("line", -20, 20), lead("pole", -20, 20))
	at := point(0, 0)
	f.Areas = []api.FxArea{area(0, 0, 0, 0, 0, 1000, 4)}
	expectOffs(t, "any depth", f, sights(sound(0, 4, 0), sound(1000, 0, 1)), at, spans(-20, 0, 0, 20))
	f.Areas[0].Depth = span(0, 0)
	expectOffs(t, "dry", f, sights(sound(0, 4, 0), sound(20, 0, 1)), at, spans(0, 0, 20, 20))
	expectOffs(t, "dry", f, sights(sound(21, 4, 0)), at, nil)
	f.Areas[0].Depth = span(1000, 1000)
	expectOffs(t, "deep", f, sights(sound(1000, 4, 0), sound(980, 0, 1)), at, spans(0, 0, -20, -20))
	expectOffs(t, "deep", f, sights(sound(979, 4, 0)), at, nil)
	f.Areas[0].Depth = span(30, 35)
	expectOffs(t, "leads are off each by its own", f, sights(sound(50, 0, 0), sound(15, 0, 1)), at, spans(15, 20, -20, -15))
	expectOffs(t, "more", f, sights(sound(50, 0, 0), sound(15, 0, 1), sound(55, 0, 0)), at, spans(20, 20, -20, -15))
	expectOffs(t, "too much", f, sights(sound(50, 0, 0), sound(15, 0, 1), sound(56, 0, 0)), at, nil)
}

// P2.3, P2.4: as many sights as there can be; the last one counts.
func TestEightSights(t *testing.T) {
	f := example()
	l := slices.Repeat(sights(sightA), 8)
	expectPlaces(t, "A eight times", f, l, points(-500, 0, 0, 0, 500, 0))
	for i := range l {
		m := slices.Clone(l)
		m[i] = sightB
		expectPlaces(t, "A and B", f, m, points(0, 0))
		m[i] = sightD
		expectPlaces(t, "A and D", f, m, points(500, 0))
		m[i] = bear(1, 20, 0)
		expectPlaces(t, "A and none", f, m, nil)
	}
}

// P2.3, P2.4: fixes and sights at random, held against the definitions.
func TestPlacesAtRandom(t *testing.T) {
	d := newDice(3)
	for i := range 1500 {
		f := d.fix(3, 5, 8)
		l := d.sights(f, 8, 100*(i%2)/4)
		o := oracleOf(f)
		expectPlaces(t, fmt.Sprint("random ", i), f, l, o.places(l))
		for range 5 {
			at := d.place(f)
			expectOffs(t, fmt.Sprint("random ", i), f, l, at, o.offs(l, at))
		}
	}
}
