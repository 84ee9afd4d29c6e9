package air_test

import (
	"fmt"
	"slices"
	"testing"

	"nore/air"
	"nore/api"
)

// inSpan reports whether a number is of a span.
func inSpan(n int, s api.Span) bool { return within(s.Lo, n, s.Hi) }

// P6.9: if reports are made of any truths, these agree: what is told is so in them.
func TestEveryTruth(t *testing.T) {
	d := newDice(9)
	var told [2][3]int
	for i := range 400 {
		c, light, horn := d.told([]int{3, 10, 40}[i%3], 8, 0)
		candles, clear, e := air.Clear(c.s, c.n, c.l)
		if e != api.OK || !inSpan(light.a, candles) || !inSpan(light.b, clear) {
			t.Fatalf("Clear of %v = %v, %v, %d, but %v agrees", c, candles, clear, e, light)
		}
		loud, winds, e := air.Winds(c.s, c.n, c.l)
		if e != api.OK || !inSpan(horn.a, loud) || !slices.Contains(winds, horn.b) {
			t.Fatalf("Winds of %v = %v, %v, %d, but %v agrees", c, loud, winds, e, horn)
		}
		sure, some, e := air.Far(c.s, c.n, c.l)
		if metres := reachOf(light); e != api.OK || !within(sure, metres, some) {
			t.Fatalf("Far of %v = %d, %d, %d, but in %v the reach is %d", c, sure, some, e, light, metres)
		}
		expectFalse(t, "truths", c, nil, api.OK)
		for k, x := range []truth{light, horn} {
			for range 5 {
				at := d.edge(c, d.truth(c, x.horn))
				is := x.meets(minus(at, c.n.At))
				n, e := air.Could(c.s, c.n, c.l, at, x.horn)
				if e != api.OK || is && n == api.AiCannot || !is && n == api.AiMust {
					t.Fatalf("Could of %v at %v = %d, %d, but in %v it is %v", c, at, n, e, x, is)
				}
				told[k][n]++
			}
		}
	}
	if slices.Min(told[0][:]) < 100 || slices.Min(told[1][:]) < 100 {
		t.Errorf("so often it could not, may, must: %v", told)
	}
}

// P6.10: from where it may be a further report, Yes or not, leaves a truth; from where it must or cannot be the other report leaves none.
func TestFurtherReport(t *testing.T) {
	d := newDice(10)
	var told [3]int
	for i := range 1500 {
		c, _, _ := d.told([]int{3, 10, 25}[i%3], 7, 0)
		horn := i%2 == 0
		at := d.edge(c, d.truth(c, horn))
		n, e := air.Could(c.s, c.n, c.l, at, horn)
		if e != api.OK {
			t.Fatalf("Could of %v at %v has the error %d", c, at, e)
		}
		told[n]++
		for _, yes := range []bool{false, true} {
			want := api.OK
			if n == api.AiMust && !yes || n == api.AiCannot && yes {
				want = api.ErrDown
			}
			further := with(c, api.AiReport{At: at, Horn: horn, Yes: yes})
			var g api.Errno
			if horn {
				_, _, g = air.Winds(further.s, further.n, further.l)
			} else {
				_, _, g = air.Clear(further.s, further.n, further.l)
			}
			if g != want {
				t.Fatalf("Could of %v at %v, %v = %d, but with the report %v the error is %d", c, at, horn, n, yes, g)
			}
			if list, _ := air.False(further.s, further.n, further.l); (len(list) == 0) != (want == api.OK) {
				t.Fatalf("Could of %v at %v, %v = %d, but with the report %v False is %v", c, at, horn, n, yes, list)
			}
		}
	}
	if slices.Min(told[:]) < 200 {
		t.Errorf("so often it could not, may, must: %v", told)
	}
}

// P6.11: a light that is seen is seen on the way to it, with more candles and in clearer air; a horn that is heard is heard on the way to it, and if it is louder.
func TestNearerBy(t *testing.T) {
	d := newDice(11)
	var met [2]int
	for range 20000 {
		step, steps := place(d.from(-300, 300), d.from(-300, 300)), d.from(1, 60)
		v := place(steps*step.X, steps*step.Y)
		candles, clear := d.from(1, []int{50, 5000}[d.IntN(2)]), d.from(1, 300)
		near := d.from(0, steps)
		w := place(near*step.X, near*step.Y)
		if is, e := air.Sees(v, candles, clear); is && e == api.OK {
			met[0]++
			expectSees(t, w, candles, clear, true, api.OK)
			expectSees(t, v, d.from(candles, 5000), clear, true, api.OK)
			expectSees(t, v, candles, d.from(clear, 300), true, api.OK)
			expectSees(t, w, d.from(candles, 5000), d.from(clear, 300), true, api.OK)
		}
		loud, wind := d.from(1, 200), d.from(0, 31)
		if is, e := air.Hears(v, loud, wind); is && e == api.OK {
			met[1]++
			expectHears(t, w, loud, wind, true, api.OK)
			expectHears(t, v, d.from(loud, 200), wind, true, api.OK)
			expectHears(t, w, d.from(loud, 200), wind, true, api.OK)
		}
	}
	if slices.Min(met[:]) < 3000 {
		t.Errorf("so often it was seen, and heard: %v", met)
	}
}

// P6.11: there is no metre without a light nearer by than another one with it.
func TestNoGap(t *testing.T) {
	for _, f := range []struct{ candles, clear int }{{1, 1}, {5, 1}, {5000, 1}, {4097, 3}, {301, 17}, {999, 40}, {5000, 120}} {
		metres := reachOf(truth{false, f.candles, f.clear})
		for n := range metres + 1000 {
			expectSees(t, place(0, n), f.candles, f.clear, n <= metres, api.OK)
		}
	}
}

// isWider reports whether a span has a number that another one has not.
func isWider(a, b api.Span) bool { return a.Lo < b.Lo || a.Hi > b.Hi }

// P6.12: with a further report no range is wider, as long as there are truths; what must, or cannot be, stays so.
func TestOneReportMore(t *testing.T) {
	d := newDice(12)
	var less [4]int
	for i := range 1500 {
		c, _, _ := d.told([]int{3, 10, 25}[i%3], 8, 5)
		if len(c.l) == 0 {
			continue
		}
		few := without(c, []int{d.from(0, len(c.l)-1)})
		at, horn := d.edge(c, d.truth(c, i%2 == 0)), i%2 == 0
		candles, clear, e := air.Clear(c.s, c.n, c.l)
		loud, winds, f := air.Winds(c.s, c.n, c.l)
		sure, some, _ := air.Far(c.s, c.n, c.l)
		n, g := air.Could(c.s, c.n, c.l, at, horn)
		if e == api.OK {
			a, b, h := air.Clear(few.s, few.n, few.l)
			lo, hi, _ := air.Far(few.s, few.n, few.l)
			if h != api.OK || isWider(candles, a) || isWider(clear, b) || isWider(span(sure, some), span(lo, hi)) {
				t.Fatalf("Clear of %v = %v, %v, Far = %d, %d; with less reports %v, %v, %d, and %d, %d", c, candles, clear, sure, some, a, b, h, lo, hi)
			}
			count(&less[0], candles != a || clear != b)
			count(&less[1], sure != lo || some != hi)
		}
		if f == api.OK {
			a, l, h := air.Winds(few.s, few.n, few.l)
			if h != api.OK || isWider(loud, a) || slices.ContainsFunc(winds, func(p int) bool { return !slices.Contains(l, p) }) {
				t.Fatalf("Winds of %v = %v, %v; with less reports %v, %v, %d", c, loud, winds, a, l, h)
			}
			count(&less[2], loud != a || len(winds) < len(l))
		}
		if g == api.OK {
			m, h := air.Could(few.s, few.n, few.l, at, horn)
			if h != api.OK || m != n && m != api.AiMay {
				t.Fatalf("Could of %v at %v, %v = %d; with less reports %d, %d", c, at, horn, n, m, h)
			}
			count(&less[3], m != n)
		}
	}
	if slices.Min(less[:]) < 30 {
		t.Errorf("so often less was left by Clear, Far, Winds, Could: %v", less)
	}
}

// count counts what is so.
func count(n *int, is bool) {
	if is {
		*n++
	}
}

// P6.13: with the grade of Grade the light is seen in any truth, with any candles; no grade that burns less does.
func TestLeastGrade(t *testing.T) {
	d := newDice(13)
	var kinds [3]int
	for i := range 600 {
		c, light, _ := d.told([]int{3, 10, 20}[i%3], 5, 0)
		metres := max(0, reachOf(light)-d.from(-5, 1500))
		n, e := air.Grade(c.s, c.n, c.l, metres)
		all := agreeing(c, false)
		if e == api.OK && !does(c, n, metres, all) {
			t.Fatalf("Grade of %v for %d = %d, which does not do", c, metres, n)
		}
		if e == api.OK && n != c.n.Grade { // the light of any truth, and any candles
			x := all[d.IntN(len(all))]
			expectSees(t, place(0, -metres), d.in(c.s.Grades[n].Candles), x.b, true, api.OK)
		}
		for k, g := range c.s.Grades {
			if (e != api.OK || g.Oil < c.s.Grades[n].Oil) && does(c, k, metres, all) {
				t.Fatalf("Grade of %v for %d = %d, %d, but %d burns less and does", c, metres, n, e, k)
			}
		}
		switch {
		case e != api.OK:
			kinds[0]++
		case n == c.n.Grade:
			kinds[1]++
		default:
			kinds[2]++
		}
	}
	if slices.Min(kinds[:]) < 50 {
		t.Errorf("so often no grade did, that of the night, another one: %v", kinds)
	}
}

// P4, P6.14: without the reports of False light and horn have truths, without any fewer ones they have none; if some reports are false, no more than these are named.
func TestFewestFalse(t *testing.T) {
	d := newDice(14)
	var kinds [4]int
	for i := range 500 {
		c, light, horn := d.told([]int{2, 5, 10}[i%3], 8, []int{10, 50}[i%2])
		list, e := air.False(c.s, c.n, c.l)
		if e != api.OK || !slices.IsSorted(list) || len(slices.Compact(slices.Clone(list))) != len(list) {
			t.Fatalf("False of %v = %v, %d", c, list, e)
		}
		if !hasTruths(without(c, list)) {
			t.Fatalf("False of %v = %v, but without these there are no truths", c, list)
		}
		kinds[min(3, len(list))]++
		for set := range uint(1) << len(c.l) {
			if few := picked(set, len(c.l)); len(few) < len(list) && hasTruths(without(c, few)) {
				t.Fatalf("False of %v = %v, but without %v there are truths", c, list, few)
			}
		}
		untrue := 0
		for _, r := range c.l {
			x := light
			if r.Horn {
				x = horn
			}
			count(&untrue, r.Yes != x.meets(minus(r.At, c.n.At)))
		}
		if len(list) > untrue {
			t.Fatalf("False of %v = %v, but in %v and %v just %d reports are false", c, list, light, horn, untrue)
		}
	}
	if slices.Min(kinds[:]) < 20 {
		t.Errorf("so many reports were false: %v", kinds)
	}
}

// hasTruths reports whether light and horn have truths, by what Clear and Winds return.
func hasTruths(c scene) bool {
	_, _, e := air.Clear(c.s, c.n, c.l)
	_, _, g := air.Winds(c.s, c.n, c.l)
	return e == api.OK && g == api.OK
}

// P6.15: what is burned in some minutes and in some more is, together, at most 1 more than in all of them, and not less.
func TestOilTogether(t *testing.T) {
	d := newDice(15)
	var more [2]int
	for range 20000 {
		s := example().s
		s.Grades[1].Oil = d.from(0, 1000)
		m := d.from(0, 1440)
		n := d.from(0, 1440-m)
		a, _ := air.Oil(s, 1, m)
		b, _ := air.Oil(s, 1, n)
		both, e := air.Oil(s, 1, m+n)
		if e != api.OK || !within(0, a+b-both, 1) {
			t.Fatalf("Oil of %d in %d minutes is %d, in %d %d, in all of them %d", s.Grades[1].Oil, m, a, n, b, both)
		}
		more[a+b-both]++
	}
	if slices.Min(more[:]) < 3000 {
		t.Errorf("so often it was not more, and 1 more: %v", more)
	}
}

// turn is a place turned clockwise by a quarter.
func turn(v api.Point) api.Point { return place(v.Y, -v.X) }

// P6.16: if all places and the wind are turned clockwise by a quarter, all is the same.
func TestTurned(t *testing.T) {
	d := newDice(16)
	for i := range 500 {
		c, _, _ := d.told([]int{3, 10, 25}[i%3], 8, []int{0, 20}[i%2])
		k := clone(c)
		k.n.At, k.n.Wind = turn(c.n.At), (c.n.Wind+8)%32
		for i, r := range c.l {
			k.l[i].At = turn(r.At)
		}
		candles, clear, e := air.Clear(c.s, c.n, c.l)
		expectClear(t, "turned", k, candles, clear, e)
		loud, winds, e := air.Winds(c.s, c.n, c.l)
		for i, p := range winds {
			winds[i] = (p + 8) % 32
		}
		slices.Sort(winds)
		expectWinds(t, "turned", k, loud, winds, e)
		for _, horn := range []bool{false, true} {
			at := d.edge(c, d.truth(c, horn))
			n, e := air.Could(c.s, c.n, c.l, at, horn)
			expectCould(t, "turned", k, turn(at), horn, n, e)
		}
		sure, some, e := air.Far(c.s, c.n, c.l)
		expectFar(t, "turned", k, sure, some, e)
		metres := d.from(0, 15000)
		n, e := air.Grade(c.s, c.n, c.l, metres)
		expectGrade(t, "turned", k, metres, n, e)
		list, e := air.False(c.s, c.n, c.l)
		expectFalse(t, "turned", k, list, e)
	}
}

// P6.16: what is seen and heard at a vector is so at the vector that is turned.
func TestSignalsTurned(t *testing.T) {
	d := newDice(17)
	for range 5000 {
		v := place(d.from(-20000, 20000), d.from(-20000, 20000))
		candles, clear, loud, wind := d.from(1, 5000), d.from(1, 300), d.from(1, 200), d.from(0, 31)
		is, _ := air.Sees(v, candles, clear)
		hears, _ := air.Hears(v, loud, wind)
		for range 3 {
			v, wind = turn(v), (wind+8)%32
			expectSees(t, v, candles, clear, is, api.OK)
			expectHears(t, v, loud, wind, hears, api.OK)
		}
	}
}

// R10: each end of what is told is a number that some truth has.
func TestEndsAreOfTruths(t *testing.T) {
	d := newDice(18)
	for i := range 100 {
		c, _, _ := d.told([]int{3, 10, 25}[i%3], 8, 0)
		all := agreeing(c, false)
		candles, clear, _ := air.Clear(c.s, c.n, c.l)
		sure, some, _ := air.Far(c.s, c.n, c.l)
		for what, has := range map[string]func(x truth) bool{
			"the least candles":    func(x truth) bool { return x.a == candles.Lo },
			"the greatest candles": func(x truth) bool { return x.a == candles.Hi },
			"the least Clear":      func(x truth) bool { return x.b == clear.Lo },
			"the greatest Clear":   func(x truth) bool { return x.b == clear.Hi },
			"the least reach":      func(x truth) bool { return reachOf(x) == sure },
			"the greatest reach":   func(x truth) bool { return reachOf(x) == some },
		} {
			if !slices.ContainsFunc(all, has) {
				t.Fatal(fmt.Sprint(what, " of ", c, " is of no truth: ", candles, clear, sure, some))
			}
		}
	}
}
