package lamp_test

import (
	"fmt"
	"slices"
	"testing"

	"nore/api"
	"nore/lamp"
)

// expectRange tells if Range does not return this.
func expectRange(t *testing.T, what string, c api.LpCase, start api.Span, speeds []api.Span, e api.Errno) {
	t.Helper()
	if s, l, g := lamp.Range(c); s != start || !slices.Equal(l, speeds) || g != e {
		t.Errorf("%s: Range of %v = %v, %v, %d; it should be %v, %v, %d", what, c, s, l, g, start, speeds, e)
	}
}

// expectAt tells if At does not return this.
func expectAt(t *testing.T, what string, c api.LpCase, second, want int, e api.Errno) {
	t.Helper()
	if n, g := lamp.At(c, second); n != want || g != e {
		t.Errorf("%s: At of %v at %d = %d, %d; it should be %d, %d", what, c, second, n, g, want, e)
	}
}

// expectWrong tells if Wrong does not return this.
func expectWrong(t *testing.T, what string, c api.LpCase, want []int, e api.Errno) {
	t.Helper()
	if l, g := lamp.Wrong(c); !slices.Equal(l, want) || g != e {
		t.Errorf("%s: Wrong of %v = %v, %d; it should be %v, %d", what, c, l, g, want, e)
	}
}

// P5.3: the examples.
func TestSightsExamples(t *testing.T) {
	expectRange(t, "C", example(), span(0, 1), spans(1, 2), api.OK)
	expectRange(t, "D", exampleD(), span(1, 1), spans(2, 2), api.OK)
	expectAt(t, "C", example(), 0, api.LpLit, api.OK)
	expectAt(t, "C", example(), 2, api.LpEither, api.OK)
	expectAt(t, "C", example(), 9, api.LpDark, api.OK)
	expectAt(t, "D", exampleD(), 6, api.LpLit, api.OK)
	expectWrong(t, "C", example(), nil, api.OK)
	expectWrong(t, "D with a sight at 18: dark", exampleD(dark(18)), []int{2}, api.OK)
	expectRange(t, "D with a sight at 18: dark", exampleD(dark(18)), span(0, 0), nil, api.ErrDown)
}

// P5.3: without sights all truths agree, also if nothing can be seen.
func TestNoSights(t *testing.T) {
	c := full()
	c.Sights = nil
	expectRange(t, "full", c, span(107, 119), spans(36, 40, 36, 40, 36, 40), api.OK)
	c.Lamp.Lit = nil
	expectRange(t, "no opening", c, span(107, 119), spans(36, 40, 36, 40, 36, 40), api.OK)
	expectAt(t, "no opening", c, 0, api.LpDark, api.OK)
	expectAt(t, "no opening", c, 199, api.LpDark, api.OK)
	c.Lamp.Lit = spans(0, 119)
	expectAt(t, "open everywhere", c, 0, api.LpLit, api.OK)
	expectAt(t, "open everywhere", c, 199, api.LpLit, api.OK)
	c.Lamp.Lit = spans(0, 107)
	expectAt(t, "at first just in some", c, 0, api.LpEither, api.OK)
	c.Sights = []api.LpSight{lit(0)}
	expectAt(t, "as was seen", c, 0, api.LpLit, api.OK)
	expectRange(t, "just one Start is left", c, span(107, 107), spans(36, 40, 36, 40, 36, 40), api.OK)
}

// P5.3, R10: the ends of Range are each for itself, and numbers in between need not be possible.
func TestRangeEnds(t *testing.T) {
	c := api.LpCase{Lamp: api.LpLamp{Drum: 20, Lit: spans(0, 0, 4, 4), Start: span(0, 4), Speed: span(1, 5), Slow: 100, Night: 10}}
	c.Sights = []api.LpSight{lit(0)}
	expectRange(t, "the ends of Start alone", c, span(0, 4), spans(1, 5), api.OK)
	c.Sights = []api.LpSight{lit(0), lit(1)}
	expectRange(t, "just one truth", c, span(0, 0), spans(4, 4), api.OK)
	c.Sights = []api.LpSight{dark(0), lit(1)}
	expectRange(t, "the sum is 4", c, span(1, 3), spans(1, 3), api.OK)
	c.Windings = []int{1}
	expectRange(t, "whatever the later run is like", c, span(1, 3), spans(1, 3, 1, 5), api.OK)
	c.Sights = []api.LpSight{dark(0), dark(1), lit(2)}
	expectRange(t, "the sum with the later run is 4", c, span(1, 2), spans(1, 2, 1, 2), api.OK)
	c.Sights = []api.LpSight{dark(0), dark(1), dark(2), lit(2)}
	expectRange(t, "none", c, span(0, 0), nil, api.ErrDown)
}

// P5.4: the fewest sights, and of several lists the first one.
func TestWrongFewest(t *testing.T) {
	c := steady(10, 1, 10, 0, 4) // lit at 0 to 4, dark at 5 to 9
	for i, f := range []struct {
		l    []api.LpSight
		want []int
	}{
		{nil, nil},
		{[]api.LpSight{lit(0), lit(4), dark(5), dark(9)}, nil},
		{[]api.LpSight{dark(0), lit(4), dark(5), dark(9)}, []int{0}},
		{[]api.LpSight{lit(0), lit(4), dark(5), lit(9)}, []int{3}},
		{[]api.LpSight{dark(0), lit(4), lit(5), dark(9)}, []int{0, 2}},
		{[]api.LpSight{dark(0), dark(4), lit(5), lit(9)}, []int{0, 1, 2, 3}},
		{slices.Repeat([]api.LpSight{dark(0)}, 8), []int{0, 1, 2, 3, 4, 5, 6, 7}},
		{[]api.LpSight{dark(0), lit(0), dark(0), lit(0), dark(0), lit(0), dark(0), lit(0)}, []int{0, 2, 4, 6}},
	} {
		c.Sights = f.l
		expectWrong(t, fmt.Sprint("just one truth ", i), c, f.want, api.OK)
	}
	c = api.LpCase{Lamp: api.LpLamp{Drum: 10, Lit: spans(0, 0), Start: span(0, 3), Speed: span(10, 10), Slow: 100, Night: 10}} // always lit, or always dark
	for i, f := range []struct {
		l    []api.LpSight
		want []int
	}{
		{[]api.LpSight{lit(0), dark(9)}, []int{0}},
		{[]api.LpSight{dark(9), lit(0)}, []int{0}},
		{[]api.LpSight{dark(9), lit(0), lit(7)}, []int{0}},
		{[]api.LpSight{lit(9), lit(0), dark(7)}, []int{2}},
		{[]api.LpSight{lit(9), dark(0), dark(7)}, []int{0}},
		{[]api.LpSight{lit(9), dark(0), lit(7), dark(6)}, []int{0, 2}},
		{[]api.LpSight{lit(9), dark(0), dark(7), lit(6)}, []int{0, 3}},
		{[]api.LpSight{dark(9), lit(0), lit(7), dark(6)}, []int{0, 3}},
		{[]api.LpSight{dark(9), dark(0), lit(7), lit(6)}, []int{0, 1}},
		{[]api.LpSight{dark(9), dark(0), lit(7), lit(6), lit(5), lit(4), lit(3), lit(2)}, []int{0, 1}},
		{[]api.LpSight{lit(9), lit(0), lit(7), dark(6), dark(5), dark(4), dark(3), lit(2)}, []int{0, 1, 2, 7}},
		{[]api.LpSight{lit(9), lit(0), lit(7), dark(6), dark(5), dark(4), dark(3), dark(2)}, []int{0, 1, 2}},
	} {
		c.Sights = f.l
		expectWrong(t, fmt.Sprint("two sorts of truths ", i), c, f.want, api.OK)
	}
}

// P5.3, P5.4: cases at random, held against the definitions.
func TestSightsAtRandom(t *testing.T) {
	d := newDice(3)
	var told, seen [3]int
	for i := range 1500 {
		c, _ := d.someCase([]int{6, 20, 60}[i%3], 30, 8, []int{0, 15, 50}[i/3%3])
		what := fmt.Sprint("random ", i)
		start, speeds, e := rangeOf(c)
		expectRange(t, what, c, start, speeds, e)
		w := wrong(c)
		expectWrong(t, what, c, w, api.OK)
		told[min(2, len(w))]++
		second := d.from(0, c.Lamp.Night-1)
		n, e := at(c, second)
		expectAt(t, what, c, second, n, e)
		if e == api.OK {
			seen[n]++
		}
	}
	if slices.Min(told[:]) < 100 || slices.Min(seen[:]) < 100 {
		t.Errorf("so many sights were wrong: %v; so often it was dark, lit, either: %v", told, seen)
	}
}
