package lamp_test

import (
	"fmt"
	"slices"
	"testing"

	"nore/api"
	"nore/lamp"
)

// expectFails tells if Fails does not return this.
func expectFails(t *testing.T, what string, c api.LpCase, l api.LpLight, x api.LpTruth, want int, e api.Errno) {
	t.Helper()
	if n, g := lamp.Fails(c, l, x); n != want || g != e {
		t.Errorf("%s: Fails of %v, %v in %v = %d, %d; it should be %d, %d", what, c, l, x, n, g, want, e)
	}
}

// expectKept tells if Kept does not return this.
func expectKept(t *testing.T, what string, c api.LpCase, l api.LpLight, want api.LpTruth, second int, e api.Errno) {
	t.Helper()
	if x, n, g := lamp.Kept(c, l); !sameTruth(x, want) || n != second || g != e {
		t.Errorf("%s: Kept of %v, %v = %v, %d, %d; it should be %v, %d, %d", what, c, l, x, n, g, want, second, e)
	}
}

// expectWhich tells if Which does not return this.
func expectWhich(t *testing.T, what string, c api.LpCase, l []api.LpLight, want []int, e api.Errno) {
	t.Helper()
	if r, g := lamp.Which(c, l); !slices.Equal(r, want) || g != e {
		t.Errorf("%s: Which of %v, %v = %v, %d; it should be %v, %d", what, c, l, r, g, want, e)
	}
}

// P5.5, P5.6: the examples.
func TestKeptExamples(t *testing.T) {
	expectFails(t, "sunk in C", example(), sunkLight(), truth(0, 1), 2, api.OK)
	expectFails(t, "sunk in C", example(), sunkLight(), truth(1, 2), -1, api.OK)
	expectFails(t, "nore in C", example(), noreLight(), truth(0, 1), -1, api.OK)
	expectKept(t, "sunk in C", example(), sunkLight(), truth(0, 1), 2, api.OK)
	expectKept(t, "nore in C", example(), noreLight(), truth(0), 0, api.ErrNone)
	expectKept(t, "sunk in D", exampleD(), sunkLight(), truth(0), 0, api.ErrNone)
	expectWhich(t, "nore and sunk in C", example(), []api.LpLight{noreLight(), sunkLight()}, []int{0, 1}, api.OK)
}

// P5.5: how long stretches may be: the first and the last one need not be as long as Lo, and none may be longer than Hi.
func TestFailsStretches(t *testing.T) {
	two := light("two", 2, 3, 4, 5) // flashes of 2 to 3 seconds, eclipses of 4 to 5
	for text, want := range map[string]int{
		"#":                   -1,
		".":                   -1,
		"##":                  -1,
		"###":                 -1,
		"####":                3,
		"#####":               3,
		".....":               -1,
		"......":              5,
		".......":             5,
		"#.":                  -1,
		"#....":               -1,
		"#.....":              -1,
		"#......":             6,
		"###......":           8,
		"####.....":           3,
		"#....#":              -1,
		"#...#":               4,
		"#...":                -1,
		"#.#":                 2,
		"#.....#":             -1,
		".##....":             -1,
		".#":                  -1,
		".#.":                 2,
		".#..":                2,
		".###.":               -1,
		".####":               4,
		".####.":              4,
		".....##....###.....": -1,
		".....##....###....#": -1,
		".....##....###...#":  17,
		".....##....#....#":   12,
		"###.....###.....###": -1,
		"###.....###.....#":   -1,
		"###.....####....#":   11,
		"......##....##....#": 5,
	} {
		expectFails(t, text, shown(text), two, truth(0, 1), want, api.OK)
		if want < 0 {
			expectKept(t, text, shown(text), two, truth(0), 0, api.ErrNone)
		} else {
			expectKept(t, text, shown(text), two, truth(0, 1), want, api.OK)
		}
	}
}

// P5.5: with some phases any one can be the first, they come in order, and behind the last one comes the first; what can be begun with is told only by what comes later.
func TestFailsPhases(t *testing.T) {
	two := light("two", 1, 1, 2, 2, 3, 3, 4, 4)                 // # .. ### ....
	three := light("three", 1, 1, 1, 1, 1, 1, 3, 3, 2, 2, 1, 1) // # . # ... ## .
	for i, f := range []struct {
		l    api.LpLight
		text string
		want int
	}{
		{two, "#..###....#..###....", -1},
		{two, "###....#..###....#..", -1},
		{two, "##....#..###....#", -1},
		{two, "#....#..###....#", -1},
		{two, "#....###..#", 6},
		{two, "#...#..###....#", 4},
		{two, "####", 3},
		{two, "..###....#..", -1},
		{two, "....#..###....", -1},
		{two, "...#..###....#", -1},
		{two, ".###....#..###", -1},
		{two, ".#..###....#", -1},
		{two, ".##.", 3},
		{two, ".....", 4},
		{two, "..#...", 5},
		{two, "..#..#", -1},
		{two, "#..#.", 4},
		{two, "#..##.", 5},
		{two, "##..", -1},
		{two, "##..#", 4},
		{three, "#.#...##.#.#...##.", -1},
		{three, "#...##.#.#...##.#.", -1},
		{three, "##.#.#...##.#.#...", -1},
		{three, "#.#.#...##.#.#...", -1},
		{three, "#.#.#.#", 6},
		{three, "#.##.#...##", 3},
		{three, "#.##.", 3},
		{three, "#...##..", 7},
		{three, "...##.#.#...##", -1},
		{three, ".#...##.#.#...#", -1},
		{three, ".#.#...##.#.#...", -1},
		{three, "..##.#.#..#", 10},
		{three, ".##.#.#...##.", -1},
		{three, "..##.#.#...##.", -1},
		{three, "..#.#...##.#", 3},
		{three, "....##", 3},
		{three, "#.#.##", 5},
		{light("same", 1, 1, 1, 1, 1, 1, 1, 1, 1, 1, 1, 1), "#.#.#.#.#.#.#.#.#.#", -1},
	} {
		what := fmt.Sprint("phases ", i, " ", f.text)
		expectFails(t, what, shown(f.text), f.l, truth(0, 1), f.want, api.OK)
		if n := failsAt(nightFrom(f.text), f.l); n != f.want {
			t.Errorf("%s: by the definitions it fails at %d, not at %d", what, n, f.want)
		}
	}
}

// P5.5: of the truths that agree the one in which it fails first, of several the one with the least Start, of several the first one by its Speeds.
func TestKeptFirst(t *testing.T) {
	// The drum is dark at 0 to 9, and lit at 10 to 19.
	c := api.LpCase{Lamp: api.LpLamp{Drum: 20, Lit: spans(10, 19), Start: span(0, 4), Speed: span(1, 5), Slow: 200, Night: 12}}
	five := light("five", 1, 200, 1, 5) // an eclipse of more than 5 seconds is too long
	expectKept(t, "the least Start and Speed", c, five, truth(0, 1), 5, api.OK)
	c.Sights = []api.LpSight{dark(5)}
	expectKept(t, "it is told that it is dark", c, five, truth(0, 1), 5, api.OK)
	c.Lamp.Speed = span(2, 5)
	c.Sights = nil
	expectKept(t, "no speed is so low", c, five, truth(0), 0, api.ErrNone)
	three := light("three", 1, 200, 1, 3)
	expectKept(t, "a shorter eclipse", c, three, truth(0, 2), 3, api.OK)
	c.Sights = []api.LpSight{lit(4)}
	expectKept(t, "lit at 4: fast enough", c, three, truth(0, 3), 3, api.OK)
	c.Sights = []api.LpSight{lit(3)}
	expectKept(t, "lit at 3: the second eclipse is too long", c, three, truth(2, 3), 9, api.OK)
	c.Sights = []api.LpSight{lit(0)}
	expectKept(t, "none agrees", c, three, truth(0), 0, api.ErrDown)

	c = api.LpCase{Lamp: api.LpLamp{Drum: 20, Lit: spans(10, 19), Start: span(0, 4), Speed: span(1, 5), Slow: 200, Night: 12}, Windings: []int{1, 2}}
	expectKept(t, "three runs", c, five, truth(0, 1, 1, 1), 5, api.OK)
	c.Sights = []api.LpSight{lit(6)}
	expectKept(t, "lit at 6, first by Start", c, five, truth(0, 1, 1, 2), 5, api.OK)
	c.Lamp.Speed = span(1, 2)
	expectKept(t, "lit at 6, with few speeds", c, five, truth(0, 1, 1, 2), 5, api.OK)
	c.Windings = []int{2, 4}
	expectKept(t, "the first Speeds, number by number", c, five, truth(0, 1, 2, 2), 5, api.OK)
	c.Lamp.Speed = span(1, 5)
	expectKept(t, "the first Speeds of more", c, five, truth(0, 1, 1, 3), 5, api.OK)
	c.Lamp.Start = span(1, 4)
	expectKept(t, "the first Speeds with another Start", c, five, truth(1, 1, 1, 3), 5, api.OK)
}

// P5.5: a later truth in which it fails earlier comes first.
func TestKeptEarliest(t *testing.T) {
	c := api.LpCase{Lamp: api.LpLamp{Drum: 30, Lit: spans(0, 9), Start: span(0, 9), Speed: span(1, 1), Slow: 200, Night: 60}}
	expectKept(t, "a long eclipse", c, light("a", 1, 10, 1, 19), truth(9, 1), 20, api.OK)
	expectKept(t, "a long flash", c, light("a", 1, 9, 1, 20), truth(0, 1), 9, api.OK)
	expectKept(t, "a short eclipse", c, light("a", 1, 10, 21, 30), truth(9, 1), 21, api.OK)
	expectKept(t, "a short flash", c, light("a", 11, 12, 1, 30), truth(9, 1), 31, api.OK)
	c.Sights = []api.LpSight{lit(1)}
	expectKept(t, "a short eclipse, lit at 1", c, light("a", 1, 10, 21, 30), truth(8, 1), 22, api.OK)
	c.Lamp.Night = 22
	expectKept(t, "a short eclipse, in a short night", c, light("a", 1, 10, 21, 30), truth(0), 0, api.ErrNone)
}

// P5.6: the lights that some truth that agrees keeps; none, if none agrees.
func TestWhichLights(t *testing.T) {
	c := api.LpCase{Lamp: api.LpLamp{Drum: 10, Lit: spans(0, 0), Start: span(0, 0), Speed: span(1, 2), Slow: 200, Night: 30}}
	slow, fast, both, none := light("slow", 1, 1, 9, 9), light("fast", 1, 1, 4, 4), light("both", 1, 1, 4, 9), light("none", 2, 2, 1, 9)
	all := []api.LpLight{slow, none, fast, both}
	expectWhich(t, "slow or fast", c, all, []int{0, 2, 3}, api.OK)
	c.Sights = []api.LpSight{lit(5)}
	expectWhich(t, "fast", c, all, []int{2, 3}, api.OK)
	c.Sights = []api.LpSight{dark(5)}
	expectWhich(t, "slow", c, all, []int{0, 3}, api.OK)
	c.Sights = []api.LpSight{dark(0)}
	expectWhich(t, "no truth agrees", c, all, nil, api.OK)
	c.Sights = nil
	expectWhich(t, "just one", c, all[1:2], nil, api.OK)
	expectWhich(t, "as many as there can be", c, []api.LpLight{light("a", 1, 1, 1, 4), light("b", 1, 1, 1, 3), light("c", 1, 1, 5, 8), light("d", 1, 1, 10, 12), wide(), slow}, []int{0, 4, 5}, api.OK)
	c.Lamp.Night = 10
	expectWhich(t, "a short night", c, []api.LpLight{light("d", 1, 1, 10, 12), light("e", 1, 1, 5, 9)}, []int{0, 1}, api.OK)
}

// P5.5, P5.6: cases and lights at random, held against the definitions.
func TestKeptAtRandom(t *testing.T) {
	d := newDice(5)
	var ends [3]int
	failed, some := 0, 0
	for i := range 1500 {
		c, x := d.someCase([]int{8, 20, 60}[i%3], 40, 3, []int{0, 20}[i%2])
		l := d.lights(c, d.from(1, 3))
		what := fmt.Sprint("random ", i)
		n := failsAt(nightOf(c, x), l[0])
		expectFails(t, what, c, l[0], x, n, api.OK)
		if n >= 0 {
			failed++
		}
		first, second, e := kept(c, l[0])
		expectKept(t, what, c, l[0], first, second, e)
		switch e {
		case api.OK:
			ends[0]++
		case api.ErrNone:
			ends[1]++
		default:
			ends[2]++
		}
		w := which(c, l)
		expectWhich(t, what, c, l, w, api.OK)
		if len(w) > 0 && len(w) < len(l) {
			some++
		}
	}
	if slices.Min(ends[:]) < 80 || failed < 200 || failed > 1300 || some < 100 {
		t.Errorf("so often it failed, was kept, and no truth agreed: %v; in a truth it failed %d times; %d times some lights could be, and others not", ends, failed, some)
	}
}
