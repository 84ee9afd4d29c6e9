package chain_test

import (
	"slices"
	"sync"
	"testing"

	"nore/api"
	"nore/chain"
)

// answers are what all functions return, as one list of numbers.
func answers(c api.CnCase, shot, weather, out int) (r []int) {
	part, at, e := chain.Check(c)
	r = append(r, part, at, int(e))
	for _, day := range []int{c.Day, 0, 100, 40000} {
		s, e := chain.Thick(c, shot, day)
		r = append(r, s.Lo, s.Hi, int(e))
	}
	l, e := chain.Doubts(c, shot)
	r = append(append(r, l...), int(e))
	s, e := chain.Bears(c, shot)
	r = append(r, s.Lo, s.Hi, int(e))
	n, e := chain.Pull(c, weather, out)
	r = append(r, n, int(e))
	a, b, x, e := chain.Why(c, out)
	r = append(r, a, b, x, int(e))
	t, a, x, e := chain.Show(c, weather, out)
	r = append(append(r, t.Depth, t.Wind, t.Current, t.Swell, t.Hold), t.Thick...)
	r = append(r, a, x, int(e))
	a, x, e = chain.In(c, weather, out, t)
	r = append(r, a, x, int(e))
	scopes, e := chain.Scopes(c)
	for _, s := range scopes {
		r = append(r, s.Lo, s.Hi)
	}
	r = append(r, int(e))
	n, e = chain.Shortest(c)
	r = append(r, n, int(e))
	shots, turned, e := chain.Renew(c)
	r = append(append(r, shots...), int(e))
	if turned {
		r = append(r, 1)
	}
	return r
}

// These are put into the memory behind the ends of lists.
var (
	behindShot    = shot("behind", 3, 2, span(1, 2), span(3, 4))
	behindGauge   = api.CnGauge{Day: 9999, Shown: 7}
	behindRow     = api.CnRow{Scope: 200, Holds: 1000}
	behindWeather = weather(span(1, 2), span(3, 4), span(5, 6), span(7, 8))
)

// roomy is a case whose lists have more memory behind their ends.
func roomy(c api.CnCase) api.CnCase {
	c = clone(c)
	for i := range c.Chain.Shots {
		c.Chain.Shots[i].Gauges = withRoom(c.Chain.Shots[i].Gauges, behindGauge)
	}
	c.Chain.Shots = withRoom(c.Chain.Shots, behindShot)
	c.Chain.Rows = withRoom(c.Chain.Rows, behindRow)
	c.Weathers = withRoom(c.Weathers, behindWeather)
	return c
}

// withRoom is a list with something in the memory behind its end.
func withRoom[T any](l []T, behind T) []T { return append(slices.Clip(l), behind)[:len(l)] }

// behind is what is in the memory behind the end of a list.
func behind[T any](l []T) T { return l[:len(l)+1][len(l)] }

// P3.15, R4: no argument is changed, nor the memory behind its ends.
func TestArgumentsStay(t *testing.T) {
	d := newDice(15)
	for i := range 300 {
		c := d.holding(5, 4, 6)
		if i%3 == 0 {
			c.Chain.Shots[0] = d.gauge(c.Chain.Shots[0], 3, 0, 100) // mostly contradictions
		}
		c = roomy(c)
		before := clone(c)
		answers(c, d.IntN(len(c.Chain.Shots)), d.IntN(len(c.Weathers)), d.from(1, linksOf(c)))
		if !same(c, before) {
			t.Fatalf("a case was changed: %v; it was %v", c, before)
		}
		s := behind(c.Chain.Shots)
		if s.Name != "behind" || s.Set != 2 || behind(c.Chain.Rows) != behindRow || behind(c.Weathers) != behindWeather {
			t.Fatalf("behind the ends of %v something was changed", c)
		}
		for _, s := range c.Chain.Shots {
			if behind(s.Gauges) != behindGauge {
				t.Fatalf("behind the gaugings of %v something was changed", s)
			}
		}
	}
	thick := []int{16500, 13000, 1, 2}
	x := truth(30, 40, 20, 5, 9000)
	x.Thick = thick[:2]
	chain.In(example(), 0, 20, x)
	if !slices.Equal(thick, []int{16500, 13000, 1, 2}) {
		t.Errorf("In changed the thicknesses: %v", thick)
	}
}

// P3.15, R4: results are new memory: what is written into one is not in another one, nor in an argument.
func TestResultsAreNew(t *testing.T) {
	c := example()
	c.Chain.Shots[0].Gauges = gauges(100, 20200, 200, 18000)
	l, _ := chain.Doubts(c, 0)
	l[0] = 77
	expectDoubts(t, "behind a change", c, 0, []int{1}, api.OK)
	c = example()
	before := answers(c, 0, 0, 20)
	x, _, _, _ := chain.Show(c, 0, 20)
	x.Thick[0], x.Thick[1] = 7, 8
	s, _ := chain.Scopes(c)
	s[0] = span(7, 8)
	if after := answers(c, 0, 0, 20); !slices.Equal(before, after) || !same(c, example()) {
		t.Errorf("behind a change of what Show and Scopes returned: %v; it was %v", after, before)
	}
	c = weak(0, 1000, 1500, 1000)
	l, _, _ = chain.Renew(c)
	l[0], l[1] = 5, 6
	expectRenew(t, "behind a change", c, []int{0, 2}, false, api.OK)
	if x, _, _, _ := chain.Show(example(), 0, 20); cap(x.Thick) > 2 && x.Thick[:3][2] != 0 {
		t.Errorf("behind the thicknesses of Show there is %d", x.Thick[:3][2])
	}
}

// R4, P11: nothing is kept between calls, whatever was asked before, or is asked at the same time; the same call has the same result.
func TestNothingIsKept(t *testing.T) {
	d := newDice(16)
	type asked struct {
		c                  api.CnCase
		shot, weather, out int
		numbers            []int
	}
	var l []asked
	for range 60 {
		c := d.holding(5, 4, 6)
		a := asked{c: c, shot: d.IntN(len(c.Chain.Shots)), weather: d.IntN(len(c.Weathers)), out: d.from(1, linksOf(c))}
		a.numbers = answers(a.c, a.shot, a.weather, a.out)
		l = append(l, a)
	}
	var all sync.WaitGroup
	for k := range 4 {
		all.Go(func() {
			for i := range l {
				a := l[(i*7+k*11)%len(l)]
				if n := answers(a.c, a.shot, a.weather, a.out); !slices.Equal(n, a.numbers) {
					t.Errorf("%v: %v; it was %v", a.c, n, a.numbers)
				}
			}
		})
	}
	all.Wait()
}

// R3: a nil slice and an empty one are the same value.
func TestNilAndEmpty(t *testing.T) {
	c := example()
	c.Chain.Shots[0].Gauges = nil
	before := answers(c, 0, 0, 20)
	c.Chain.Shots[0].Gauges, c.Chain.Shots[1].Gauges = []api.CnGauge{}, []api.CnGauge{}
	if after := answers(c, 0, 0, 20); !slices.Equal(before, after) {
		t.Errorf("with empty lists %v; with nil ones %v", after, before)
	}
	for _, l := range [][]int{nil, {}} {
		expectIn(t, "no thicknesses", c, 0, 20, truth(30, 40, 20, 5, 9000, l...), 0, 0, api.ErrLong)
	}
}

// P1, P3.15, R5: any arguments are accepted.
func TestAnyArguments(t *testing.T) {
	numbers := append([]int{-1, 0, 1, 20, 40, 280, 1000, 60000}, far...)
	for _, n := range numbers {
		for _, m := range numbers {
			wild := []api.CnCase{{}, example(), full(), torn()}
			for _, change := range []func(c *api.CnCase){
				func(c *api.CnCase) { c.Chain.Long, c.Chain.Heavy, c.Chain.Err = n, m, n },
				func(c *api.CnCase) { c.Chain.Hold = span(n, m) },
				func(c *api.CnCase) { c.Chain.Shots[0].New, c.Chain.Shots[1].Wear = span(n, m), span(m, n) },
				func(c *api.CnCase) { c.Chain.Shots[0].Links, c.Chain.Shots[1].Set = n, m },
				func(c *api.CnCase) { c.Chain.Shots[1].Gauges = gauges(n, m, m, n) },
				func(c *api.CnCase) { c.Chain.Rows = rows(n, m, m, n) },
				func(c *api.CnCase) { c.Ship = api.CnShip{Wind: n, Current: m, Swell: n, Yaw: m} },
				func(c *api.CnCase) { c.Day = n },
				func(c *api.CnCase) { c.Weathers[0] = weather(span(n, m), span(m, n), span(n, n), span(m, m)) },
			} {
				wild = append(wild, changed(change))
			}
			for _, c := range wild {
				chain.Check(c)
				chain.Thick(c, n, m)
				chain.Doubts(c, n)
				chain.Bears(c, n)
				chain.Pull(c, n, m)
				chain.Why(c, n)
				chain.Show(c, n, m)
				chain.In(c, n, m, truth(n, m, n, m, n, m, n))
				chain.In(example(), 0, 20, truth(n, m, n, m, n, m, n))
			}
		}
	}
	for _, c := range []api.CnCase{{}, {Chain: api.CnChain{Shots: make([]api.CnShot, 3)}}, {Chain: api.CnChain{Shots: make([]api.CnShot, 3), Rows: make([]api.CnRow, 3)}}, {Weathers: make([]api.CnWeather, 3)}} {
		answers(c, 0, 0, 0)
		answers(c, 0, 0, 1)
	}
}
