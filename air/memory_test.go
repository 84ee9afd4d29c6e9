package air_test

import (
	"slices"
	"sync"
	"testing"

	"nore/air"
	"nore/api"
)

// answers are what all functions return, as one list of numbers.
func answers(c scene, at api.Point, n, m int) (r []int) {
	add := func(e api.Errno, n ...int) { r = append(append(r, n...), int(e)) }
	number := map[bool]int{true: 1}
	is, e := air.Sees(at, n, m)
	add(e, number[is])
	is, e = air.Hears(at, n, m)
	add(e, number[is])
	part, i, e := air.Check(c.s)
	add(e, part, i)
	i, e = air.CheckNight(c.s, c.n, c.l)
	add(e, i)
	a, b, e := air.Clear(c.s, c.n, c.l)
	add(e, a.Lo, a.Hi, b.Lo, b.Hi)
	a, l, e := air.Winds(c.s, c.n, c.l)
	add(e, append(slices.Clone(l), a.Lo, a.Hi)...)
	for _, horn := range []bool{false, true} {
		i, e = air.Could(c.s, c.n, c.l, at, horn)
		add(e, i)
	}
	part, i, e = air.Far(c.s, c.n, c.l)
	add(e, part, i)
	i, e = air.Grade(c.s, c.n, c.l, m)
	add(e, i)
	l, e = air.False(c.s, c.n, c.l)
	add(e, l...)
	i, e = air.Oil(c.s, n, m)
	add(e, i)
	return r
}

// These are put into the memory behind the ends of lists.
var (
	behindGrade  = grade("behind", 7, 77, 777)
	behindReport = heard(77, -77)
)

// withRoom is a list with something in the memory behind its end.
func withRoom[T any](l []T, behind T) []T { return append(slices.Clip(l), behind)[:len(l)] }

// behind is what is in the memory behind the end of a list.
func behind[T any](l []T) T { return l[:len(l)+1][len(l)] }

// P6.17, R4: no argument is changed, nor the memory behind its ends.
func TestArgumentsStay(t *testing.T) {
	d := newDice(20)
	for i := range 500 {
		c, _, _ := d.told([]int{3, 10, 25}[i%3], 8, 10)
		switch i % 10 {
		case 7:
			c.s.Loud.Lo = 0
		case 8:
			c.n.Wind = -1
		case 9:
			c.l = slices.Repeat([]api.AiReport{saw(1, 1)}, 9)
		}
		c.s.Grades, c.l = withRoom(c.s.Grades, behindGrade), withRoom(c.l, behindReport)
		kept := clone(c)
		answers(c, d.edge(c, truth{false, 10, 10}), d.from(0, 10), d.from(0, 40))
		if !same(c, kept) {
			t.Fatalf("%v was changed; it was %v", c, kept)
		}
		if behind(c.s.Grades) != behindGrade || behind(c.l) != behindReport {
			t.Fatalf("behind the ends of %v something was changed", c)
		}
	}
}

// fill writes something into all of a list, and into the memory behind its end.
func fill[T any](l []T, x T) {
	l = l[:cap(l)]
	for i := range l {
		l[i] = x
	}
}

// P6.17, R4: results are new memory: what is written into one is not in another one, nor in an argument.
func TestResultsAreNew(t *testing.T) {
	c := example(reportB(), heard(3000, 0), saw(0, 14000), still(0, 0), dark(0, 0))
	c.n.Winds = 5
	before := answers(c, place(9000, 0), 1, 8)
	for range 2 {
		_, winds, e := air.Winds(c.s, c.n, without(c, []int{3}).l)
		list, f := air.False(c.s, c.n, c.l)
		if len(winds) != 5 || e != api.OK || len(list) != 3 || f != api.OK {
			t.Fatalf("Winds = %v, %d, False = %v, %d", winds, e, list, f)
		}
		fill(winds, 77)
		fill(list, 77)
	}
	if after := answers(c, place(9000, 0), 1, 8); !slices.Equal(before, after) {
		t.Errorf("behind a change of results: %v; it was %v", after, before)
	}
}

// R4: nothing is kept between calls, whatever was asked before, or is asked at the same time; the same call has the same result.
func TestNothingIsKept(t *testing.T) {
	d := newDice(21)
	type asked struct {
		c       scene
		at      api.Point
		n, m    int
		numbers []int
	}
	var all []asked
	for range 60 {
		c, light, _ := d.told(10, 8, 10)
		a := asked{c: c, at: d.edge(c, light), n: d.from(0, 3), m: d.from(0, 31)}
		a.numbers = answers(a.c, a.at, a.n, a.m)
		all = append(all, a)
	}
	var workers sync.WaitGroup
	for k := range 4 {
		workers.Go(func() {
			for i := range all {
				a := all[(i*7+k*11)%len(all)]
				if n := answers(a.c, a.at, a.n, a.m); !slices.Equal(n, a.numbers) {
					t.Errorf("%v: %v; it was %v", a.c, n, a.numbers)
				}
			}
		})
	}
	workers.Wait()
}

// R3: a nil slice and an empty one are the same value.
func TestNilAndEmpty(t *testing.T) {
	c := example()
	c.l = nil
	before := answers(c, place(1, 2), 1, 3)
	c.l = []api.AiReport{}
	if after := answers(c, place(1, 2), 1, 3); !slices.Equal(before, after) {
		t.Errorf("with empty lists %v; with nil ones %v", after, before)
	}
	for _, grades := range [][]api.AiGrade{nil, {}} {
		c.s.Grades = grades
		expectCheck(t, "no grades", c.s, 1, 0, api.ErrLong)
	}
}

// P1, P6.17, R5: any arguments are accepted.
func TestAnyArguments(t *testing.T) {
	numbers := append([]int{-1, 0, 1, 2, 31, 32, 200, 300, 5000, 30000, 60000}, far...)
	for _, n := range numbers {
		for _, k := range numbers {
			for _, change := range []func(c *scene){
				func(c *scene) {},
				func(c *scene) { c.s.Loud, c.s.Clear = span(n, k), span(k, n) },
				func(c *scene) { c.s.Loud = span(n, k) },
				func(c *scene) { c.s.Clear = span(n, k) },
				func(c *scene) { c.s.Grades[1].Candles, c.s.Grades[0].Oil = span(n, k), k },
				func(c *scene) { c.s.Grades[0].Candles = span(n, n) },
				func(c *scene) { c.n.At = place(n, k) },
				func(c *scene) { c.n.Grade, c.n.Wind = n, k },
				func(c *scene) { c.n.Wind, c.n.Winds = n, k },
				func(c *scene) { c.l = append(c.l, saw(n, k), still(k, n)) },
			} {
				c := example(reportA())
				change(&c)
				answers(c, place(n, k), n, k)
			}
		}
	}
	for _, c := range []scene{{}, {l: make([]api.AiReport, 9)}, {s: api.AiStation{Grades: make([]api.AiGrade, 1<<16)}}, example(), full()} {
		answers(c, place(0, 0), 0, 0)
	}
}
