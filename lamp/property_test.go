package lamp_test

import (
	"fmt"
	"slices"
	"testing"

	"nore/api"
	"nore/lamp"
)

// inSpan reports whether a number is of a span.
func inSpan(n int, s api.Span) bool { return within(s.Lo, n, s.Hi) }

// P5.8, P6: if sights are made of any truth, this truth agrees: what is told is so in it.
func TestEveryTruth(t *testing.T) {
	d := newDice(8)
	told, named := [3]int{}, 0
	for i := range 1000 {
		c, x := d.someCase([]int{8, 20, 120}[i%3], []int{20, 60}[i%2], 8, 0)
		l := d.lights(c, d.from(1, 4))
		night := nightOf(c, x)
		start, speeds, e := lamp.Range(c)
		if e != api.OK || !inSpan(x.Start, start) || len(speeds) != len(x.Speeds) {
			t.Fatalf("Range of %v = %v, %v, %d, but %v agrees", c, start, speeds, e, x)
		}
		for run, s := range speeds {
			if !inSpan(x.Speeds[run], s) {
				t.Fatalf("Range of %v = %v, %v, but %v agrees", c, start, speeds, x)
			}
		}
		expectWrong(t, "a truth", c, nil, api.OK)
		for second, is := range night {
			n, e := lamp.At(c, second)
			if e != api.OK || is && n == api.LpDark || !is && n == api.LpLit {
				t.Fatalf("At of %v at %d = %d, %d, but in %v it is %v", c, second, n, e, x, is)
			}
			told[n]++
		}
		w, e := lamp.Which(c, l)
		for k := range l {
			if n, f := lamp.Fails(c, l[k], x); e != api.OK || f != api.OK || n == -1 && !slices.Contains(w, k) {
				t.Fatalf("Which of %v, %v = %v, %d, but %v keeps %d", c, l, w, e, x, k)
			}
		}
		named += len(w)
	}
	if slices.Min(told[:]) < 1000 || named < 500 {
		t.Errorf("so often it was dark, lit, either: %v; %d lights were named", told, named)
	}
}

// P5.9, P6: if Kept returns ErrNone, the light keeps its character in any truth that agrees; otherwise it fails in the truth that it returns at the second, and in no truth that agrees before.
func TestKeptInAny(t *testing.T) {
	d := newDice(9)
	var ends [2]int
	for i := range 600 {
		c, _ := d.someCase([]int{8, 20, 60}[i%3], 40, 3, 0)
		l := d.lights(c, 1)[0]
		x, second, e := lamp.Kept(c, l)
		if e == api.ErrNone {
			second = c.Lamp.Night
			ends[0]++
		} else {
			if e != api.OK || !agrees(c, x) {
				t.Fatalf("Kept of %v, %v = %v, %d, %d, which does not agree", c, l, x, second, e)
			}
			expectFails(t, "the truth of Kept", c, l, x, second, api.OK)
			ends[1]++
		}
		for _, y := range agreeing(c) {
			if n, f := lamp.Fails(c, l, y); f != api.OK || n >= 0 && n < second {
				t.Fatalf("Kept of %v, %v = %v, %d, %d, but in %v it fails at %d", c, l, x, second, e, y, n)
			}
		}
	}
	if slices.Min(ends[:]) < 100 {
		t.Errorf("so often it was kept, and failed: %v", ends)
	}
}

// P4, P5.10: without the sights of Wrong some truth agrees with the others, without any fewer ones none does; if so many sights are wrong, no more than these are named.
func TestFewestWrong(t *testing.T) {
	d := newDice(10)
	var kinds [4]int
	for i := range 400 {
		c, x := d.someCase([]int{8, 20, 60}[i%3], 30, 8, []int{10, 50}[i%2])
		list, e := lamp.Wrong(c)
		if e != api.OK || !slices.IsSorted(list) {
			t.Fatalf("Wrong of %v = %v, %d", c, list, e)
		}
		if _, _, e := lamp.Range(without(c, list)); e != api.OK {
			t.Fatalf("Wrong of %v = %v, but without these no truth agrees", c, list)
		}
		kinds[min(3, len(list))]++
		for set := range uint(1) << len(c.Sights) {
			if few := picked(set, len(c.Sights)); len(few) < len(list) {
				expectRange(t, fmt.Sprint("without ", few), without(c, few), span(0, 0), nil, api.ErrDown)
			}
		}
		untrue := 0
		night := nightOf(c, x)
		for _, s := range c.Sights {
			if night[s.Second] != s.Lit {
				untrue++
			}
		}
		if len(list) > untrue {
			t.Fatalf("Wrong of %v = %v, but in %v just %d sights are wrong", c, list, x, untrue)
		}
	}
	if slices.Min(kinds[:]) < 20 {
		t.Errorf("so many sights were wrong: %v", kinds)
	}
}

// P5.11, P6: if a lamp is wound as Wind says, each run keeps the character in any truth; no run is longer than Longest, fewer windings do not do, and each is as late as possible.
func TestWound(t *testing.T) {
	d := newDice(11)
	often := 0
	for i := range 400 {
		c := api.LpCase{Lamp: d.lamp([]int{8, 20, 60}[i%3], []int{30, 200}[i%2])}
		l := d.wideLight(d.lights(c, 1)[0])
		n, e := lamp.Longest(c.Lamp, l)
		windings, f := lamp.Wind(c.Lamp, l)
		if e != api.OK || f != api.OK || !within(1, n, c.Lamp.Night) || len(windings) != (c.Lamp.Night-1)/n {
			t.Fatalf("Longest of %v, %v = %d, %d; Wind = %v, %d", c.Lamp, l, n, e, windings, f)
		}
		ends := append(slices.Clone(windings), c.Lamp.Night)
		c.Windings = windings
		if len(windings) > 1 {
			often++
		}
		for range 20 {
			x := d.truth(c)
			night, begin := nightOf(c, x), 0
			for k, end := range ends {
				if k < len(windings) && end != (k+1)*n || end-begin > n || end <= begin || !keeps(night[begin:end], l) {
					t.Fatalf("Wind of %v, %v = %v; in %v the run from %d to %d is too long, or does not keep the character", c.Lamp, l, windings, x, begin, end-1)
				}
				begin = end
			}
		}
	}
	if often < 50 {
		t.Errorf("just %d lamps were wound more often than once", often)
	}
}

// P5.11: with a run that is longer by a second than Longest, if the night is so long, some truth does not keep the character; with one as long as that any one does.
func TestLongerByASecond(t *testing.T) {
	d := newDice(12)
	longer := 0
	for i := range 300 {
		x := d.lamp([]int{4, 12, 40}[i%3], 40)
		l := d.wideLight(d.light("a", nightOf(api.LpCase{Lamp: x}, d.truth(api.LpCase{Lamp: x}))))
		n, e := lamp.Longest(x, l)
		if e != api.OK {
			t.Fatalf("Longest of %v, %v: error %d", x, l, e)
		}
		first := x.Night
		for at := range x.Drum {
			c := api.LpCase{Lamp: x}
			c.Lamp.Start = span(at, at)
			if _, second, e := lamp.Kept(c, l); e == api.OK {
				first = min(first, second)
			}
		}
		if first != n { // it fails at the second behind the first n ones
			t.Fatalf("Longest of %v, %v = %d, but in some truth it fails at %d", x, l, n, first)
		}
		if n < x.Night {
			longer++
		}
	}
	if longer < 100 {
		t.Errorf("just %d runs could be longer by a second", longer)
	}
}

// P2, P5.12: one more sight, wherever it comes, adds nothing to what Range, At and Which leave possible.
func TestOneMoreSight(t *testing.T) {
	d := newDice(13)
	less := [3]int{}
	for i := range 500 {
		c, _ := d.someCase([]int{8, 20, 60}[i%3], 30, 8, 5)
		start, speeds, e := lamp.Range(c)
		if e != api.OK || len(c.Sights) == 0 {
			continue
		}
		l := d.lights(c, 6)
		w, _ := lamp.Which(c, l)
		k := d.from(0, len(c.Sights)-1)
		few := without(c, []int{k})
		s, v, e := lamp.Range(few)
		if e != api.OK || start.Lo < s.Lo || start.Hi > s.Hi {
			t.Fatalf("Range of %v = %v, and without sight %d %v", c, start, k, s)
		}
		for run := range speeds {
			if speeds[run].Lo < v[run].Lo || speeds[run].Hi > v[run].Hi {
				t.Fatalf("Range of %v = %v, and without sight %d %v", c, speeds, k, v)
			}
		}
		if s != start || !slices.Equal(v, speeds) {
			less[0]++
		}
		more, _ := lamp.Which(few, l)
		if slices.ContainsFunc(w, func(n int) bool { return !slices.Contains(more, n) }) {
			t.Fatalf("Which of %v, %v = %v, and without sight %d %v", c, l, w, k, more)
		}
		if len(more) > len(w) {
			less[1]++
		}
		for second := range c.Lamp.Night {
			one, _ := lamp.At(c, second)
			other, _ := lamp.At(few, second)
			if one != other && other != api.LpEither {
				t.Fatalf("At of %v at %d = %d, and without sight %d %d", c, second, one, k, other)
			}
			if one != other {
				less[2]++
			}
		}
	}
	if slices.Min(less[:]) < 20 {
		t.Errorf("so often less was left by Range, Which and At: %v", less)
	}
}

// P5.13: if the spans of a light are wider, it keeps its character wherever it did; Longest is not less.
func TestWiderLight(t *testing.T) {
	d := newDice(14)
	more := [2]int{}
	for i := range 1000 {
		c, x := d.someCase([]int{8, 20, 60}[i%3], 60, 3, 0)
		l := d.lights(c, 1)[0]
		w := d.wideLight(l)
		n, _ := lamp.Fails(c, l, x)
		m, _ := lamp.Fails(c, w, x)
		if m >= 0 && (n < 0 || m < n) {
			t.Fatalf("%v fails in %v, %v at %d, but the wider %v at %d", l, c, x, n, w, m)
		}
		if n != m {
			more[0]++
		}
		a, _ := lamp.Longest(c.Lamp, l)
		b, _ := lamp.Longest(c.Lamp, w)
		if a < 1 || b < a {
			t.Fatalf("Longest of %v, %v = %d, and of the wider %v %d", c.Lamp, l, a, w, b)
		}
		if a != b {
			more[1]++
		}
		one, _ := lamp.Which(c, []api.LpLight{l})
		other, _ := lamp.Which(c, []api.LpLight{w})
		if len(other) < len(one) {
			t.Fatalf("%v can be %v, but not the wider %v", c, l, w)
		}
	}
	if slices.Min(more[:]) < 50 {
		t.Errorf("so often it failed later, and Longest was greater: %v", more)
	}
}

// turned is a lamp whose openings and Start are turned by so many positions, and whether they are spans then.
func turned(x api.LpLamp, by int) (api.LpLamp, bool) {
	turn := func(s api.Span) api.Span { return span((s.Lo+by)%x.Drum, (s.Hi+by)%x.Drum) }
	x = cloneLamp(x)
	x.Start = turn(x.Start)
	for i := range x.Lit {
		x.Lit[i] = turn(x.Lit[i])
	}
	slices.SortFunc(x.Lit, func(a, b api.Span) int { return a.Lo - b.Lo })
	return x, x.Start.Lo <= x.Start.Hi && !slices.ContainsFunc(x.Lit, func(s api.Span) bool { return s.Lo > s.Hi })
}

// P5.14: if all openings and Start are turned by as many positions, round and round, all that is told is the same, with Start turned.
func TestTurned(t *testing.T) {
	d := newDice(15)
	asked, round := 0, 0
	for i := range 2000 {
		c, x := d.someCase([]int{8, 20, 60}[i%3], 40, 5, []int{0, 20}[i%2])
		l := d.lights(c, 2)
		by := d.from(0, c.Lamp.Drum-1)
		turnedLamp, ok := turned(c.Lamp, by)
		if !ok {
			continue
		}
		k := c
		k.Lamp = turnedLamp
		shift := k.Lamp.Start.Lo - c.Lamp.Start.Lo
		y := truth(x.Start+shift, x.Speeds...)
		asked++
		if shift < 0 || len(c.Lamp.Lit) > 0 && k.Lamp.Lit[0].Lo != c.Lamp.Lit[0].Lo+by {
			round++
		}
		shows, _ := lamp.Shows(c, x)
		expectShows(t, "turned", k, y, shows, api.OK)
		start, speeds, e := lamp.Range(c)
		if e == api.OK {
			start = span(start.Lo+shift, start.Hi+shift)
		}
		expectRange(t, "turned", k, start, speeds, e)
		list, _ := lamp.Wrong(c)
		expectWrong(t, "turned", k, list, api.OK)
		second := d.from(0, c.Lamp.Night-1)
		n, e := lamp.At(c, second)
		expectAt(t, "turned", k, second, n, e)
		n, _ = lamp.Fails(c, l[0], x)
		expectFails(t, "turned", k, l[0], y, n, api.OK)
		first, second, e := lamp.Kept(c, l[0])
		if e == api.OK {
			first.Start += shift
		}
		expectKept(t, "turned", k, l[0], first, second, e)
		list, _ = lamp.Which(c, l)
		expectWhich(t, "turned", k, l, list, api.OK)
		n, _ = lamp.Longest(c.Lamp, l[0])
		expectLongest(t, "turned", k.Lamp, l[0], n, api.OK)
		list, _ = lamp.Wind(c.Lamp, l[0])
		expectWind(t, "turned", k.Lamp, l[0], list, api.OK)
	}
	if asked < 300 || round < 100 {
		t.Errorf("%d lamps were turned, %d of them round", asked, round)
	}
}
