package lamp_test

import (
	"slices"
	"sync"
	"testing"

	"nore/api"
	"nore/lamp"
)

// answers are what all functions return, as one list of numbers.
func answers(c api.LpCase, l []api.LpLight, x api.LpTruth, second int) (r []int) {
	add := func(e api.Errno, n ...int) { r = append(append(r, n...), int(e)) }
	addSpans := func(l []api.Span, e api.Errno) {
		for _, s := range l {
			r = append(r, s.Lo, s.Hi)
		}
		add(e)
	}
	part, at, e := lamp.Check(c)
	add(e, part, at)
	at, e = lamp.Lights(l)
	add(e, at)
	addSpans(lamp.Shows(c, x))
	start, speeds, e := lamp.Range(c)
	addSpans(append([]api.Span{start}, speeds...), e)
	at, e = lamp.At(c, second)
	add(e, at)
	list, e := lamp.Wrong(c)
	add(e, list...)
	list, e = lamp.Which(c, l)
	add(e, list...)
	one := api.LpLight{}
	if len(l) > 0 {
		one = l[0]
	}
	at, e = lamp.Fails(c, one, x)
	add(e, at)
	y, at, e := lamp.Kept(c, one)
	add(e, append(slices.Clone(y.Speeds), y.Start, at)...)
	at, e = lamp.Longest(c.Lamp, one)
	add(e, at)
	list, e = lamp.Wind(c.Lamp, one)
	add(e, list...)
	return r
}

// These are put into the memory behind the ends of lists.
var (
	behindSpan  = span(-7, 7)
	behindSight = lit(77)
	behindPhase = api.LpPhase{Flash: span(7, 8), Dark: span(9, 7)}
)

// withRoom is a list with something in the memory behind its end.
func withRoom[T any](l []T, behind T) []T { return append(slices.Clip(l), behind)[:len(l)] }

// behind is what is in the memory behind the end of a list.
func behind[T any](l []T) T { return l[:len(l)+1][len(l)] }

// roomy is a case whose lists have more memory behind their ends.
func roomy(c api.LpCase) api.LpCase {
	c.Lamp.Lit = withRoom(c.Lamp.Lit, behindSpan)
	c.Windings = withRoom(c.Windings, 77)
	c.Sights = withRoom(c.Sights, behindSight)
	return c
}

// roomyLights are lights whose lists have more memory behind their ends.
func roomyLights(l []api.LpLight) []api.LpLight {
	for i := range l {
		l[i].Phases = withRoom(l[i].Phases, behindPhase)
	}
	return withRoom(l, light("behind"))
}

// P5.15, R4: no argument is changed, nor the memory behind its ends.
func TestArgumentsStay(t *testing.T) {
	d := newDice(16)
	for i := range 500 {
		c, x := d.someCase([]int{8, 20, 60}[i%3], 40, 8, 10)
		l := d.lights(c, d.from(1, 6))
		switch i % 10 {
		case 7:
			c.Lamp.Slow = 0
		case 8:
			l[len(l)-1].Name = ""
		case 9:
			x.Start = -1
		}
		c, l = roomy(c), roomyLights(l)
		x.Speeds = withRoom(x.Speeds, 77)
		keptCase, keptLights, keptTruth := clone(c), cloneLights(l), truth(x.Start, slices.Clone(x.Speeds)...)
		answers(c, l, x, d.from(0, c.Lamp.Night-1))
		if !same(c, keptCase) || !sameLights(l, keptLights) || !sameTruth(x, keptTruth) {
			t.Fatalf("%v, %v, %v was changed; it was %v, %v, %v", c, l, x, keptCase, keptLights, keptTruth)
		}
		if behind(c.Lamp.Lit) != behindSpan || behind(c.Windings) != 77 || behind(c.Sights) != behindSight || behind(l).Name != "behind" || behind(x.Speeds) != 77 {
			t.Fatalf("behind the ends of %v, %v or %v something was changed", c, l, x)
		}
		for _, one := range l {
			if behind(one.Phases) != behindPhase {
				t.Fatalf("behind the phases of %v something was changed", one)
			}
		}
	}
}

// P5.15, R4: results are new memory: what is written into one is not in another one, nor in an argument.
func TestResultsAreNew(t *testing.T) {
	c := example(lit(9), dark(0))
	c.Windings = []int{5, 10}
	l := []api.LpLight{sunkLight(), wide()}
	x := truth(1, 2, 1, 2)
	right := without(c, []int{2, 3})
	before, beforeRight := answers(c, l, x, 3), answers(right, l, x, 3)
	for range 2 {
		shows, _ := lamp.Shows(c, x)
		_, speeds, _ := lamp.Range(right)
		wrong, _ := lamp.Wrong(c)
		y, _, _ := lamp.Kept(right, l[0])
		which, _ := lamp.Which(right, l)
		windings, _ := lamp.Wind(c.Lamp, l[0])
		if len(shows) == 0 || len(speeds) != 3 || len(wrong) != 2 || len(y.Speeds) != 3 || len(which) == 0 || len(windings) != 11 {
			t.Fatalf("Shows = %v, Range = %v, Wrong = %v, Kept = %v, Which = %v, Wind = %v", shows, speeds, wrong, y, which, windings)
		}
		for _, r := range [][]int{wrong, y.Speeds, which, windings} {
			fill(r, 77)
		}
		fill(shows, span(77, 77))
		fill(speeds, span(77, 77))
	}
	if after := answers(c, l, x, 3); !slices.Equal(before, after) {
		t.Errorf("behind a change of results: %v; it was %v", after, before)
	}
	if after := answers(right, l, x, 3); !slices.Equal(beforeRight, after) {
		t.Errorf("behind a change of results: %v; it was %v", after, beforeRight)
	}
}

// fill writes something into all of a list, and into the memory behind its end.
func fill[T any](l []T, x T) {
	l = l[:cap(l)]
	for i := range l {
		l[i] = x
	}
}

// R4, P11: nothing is kept between calls, whatever was asked before, or is asked at the same time; the same call has the same result.
func TestNothingIsKept(t *testing.T) {
	d := newDice(17)
	type asked struct {
		c       api.LpCase
		l       []api.LpLight
		x       api.LpTruth
		second  int
		numbers []int
	}
	var all []asked
	for range 60 {
		c, x := d.someCase(20, 40, 8, 10)
		a := asked{c: c, l: d.lights(c, 3), x: x, second: d.from(0, c.Lamp.Night-1)}
		a.numbers = answers(a.c, a.l, a.x, a.second)
		all = append(all, a)
	}
	var workers sync.WaitGroup
	for k := range 4 {
		workers.Go(func() {
			for i := range all {
				a := all[(i*7+k*11)%len(all)]
				if n := answers(a.c, a.l, a.x, a.second); !slices.Equal(n, a.numbers) {
					t.Errorf("%v, %v, %v: %v; it was %v", a.c, a.l, a.x, n, a.numbers)
				}
			}
		})
	}
	workers.Wait()
}

// R3: a nil slice and an empty one are the same value.
func TestNilAndEmpty(t *testing.T) {
	c := example()
	c.Lamp.Lit, c.Sights = nil, nil
	before := answers(c, []api.LpLight{wide()}, truth(0, 1), 5)
	c.Lamp.Lit, c.Windings, c.Sights = []api.Span{}, []int{}, []api.LpSight{}
	if after := answers(c, []api.LpLight{wide()}, truth(0, 1), 5); !slices.Equal(before, after) {
		t.Errorf("with empty lists %v; with nil ones %v", after, before)
	}
	for _, phases := range [][]api.LpPhase{nil, {}} {
		for _, speeds := range [][]int{nil, {}} {
			n, e := lamp.Fails(c, api.LpLight{Name: "a", Phases: phases}, api.LpTruth{Speeds: speeds})
			l, f := lamp.Shows(c, api.LpTruth{Speeds: speeds})
			if n != 0 || e != api.ErrLong || len(l) != 0 || f != api.ErrLong {
				t.Errorf("Fails = %d, %d; Shows = %v, %d", n, e, l, f)
			}
		}
	}
	for _, l := range [][]api.LpLight{nil, {}} {
		expectLights(t, "no lights", l, 0, api.ErrLong)
	}
}

// P1, P5.15, R5: any arguments are accepted.
func TestAnyArguments(t *testing.T) {
	numbers := append([]int{-1, 0, 1, 2, 24, 40, 120, 200}, far...)
	for _, n := range numbers {
		for _, k := range numbers {
			for _, change := range []func(c *api.LpCase){
				func(c *api.LpCase) {},
				func(c *api.LpCase) { c.Lamp.Drum, c.Lamp.Slow = n, k },
				func(c *api.LpCase) { c.Lamp.Night, c.Lamp.Drum = n, k },
				func(c *api.LpCase) { c.Lamp.Lit = []api.Span{span(0, 0), span(n, k)} },
				func(c *api.LpCase) { c.Lamp.Lit = []api.Span{span(n, k), span(k, n)} },
				func(c *api.LpCase) { c.Lamp.Start, c.Lamp.Speed = span(n, k), span(k, n) },
				func(c *api.LpCase) { c.Lamp.Start = span(n, k) },
				func(c *api.LpCase) { c.Lamp.Speed = span(n, k) },
				func(c *api.LpCase) { c.Windings = []int{n, k} },
				func(c *api.LpCase) { c.Sights = append(c.Sights, lit(n), dark(k)) },
			} {
				c := example()
				change(&c)
				answers(c, []api.LpLight{light("a", n, k, k, n)}, truth(n, k), n)
				answers(c, []api.LpLight{sunkLight(), light("a", 1, 1, n, k)}, truth(0, n, k, n, k), k)
			}
		}
	}
	for _, c := range []api.LpCase{{}, {Lamp: api.LpLamp{Lit: make([]api.Span, 3)}}, {Windings: make([]int, 3)}, {Sights: make([]api.LpSight, 3)}, example(), full()} {
		for _, l := range [][]api.LpLight{nil, make([]api.LpLight, 1), make([]api.LpLight, 7), {light("a")}} {
			answers(c, l, api.LpTruth{}, 0)
			answers(c, l, api.LpTruth{Speeds: make([]int, 5)}, 0)
		}
	}
}
