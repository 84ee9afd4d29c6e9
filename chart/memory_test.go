package chart_test

import (
	"math"
	"slices"
	"sync"
	"testing"

	"nore/api"
	"nore/chart"
)

// answers are what all functions return of a chart, as one list of numbers and one text.
func answers(c api.CtChart, at api.Point, day, mark, radius int) ([]int, string) {
	var l []int
	part, i, e := chart.Check(c)
	l = append(l, part, i, int(e))
	sure, some, e := chart.On(c, at)
	l = append(append(append(l, sure...), -1), some...)
	l = append(l, int(e))
	sand, move, e := chart.Clear(c, at, radius)
	l = append(l, sand, move.X, move.Y, int(e))
	r, e := chart.Radius(c, at)
	l = append(l, r, int(e))
	k, e := chart.Colour(c, day, mark)
	l = append(l, k, int(e))
	p, e := chart.Seen(c, day, mark, at)
	l = append(l, p, int(e))
	points, e := chart.Points(c, day, mark, box(at.X, at.X, at.Y, at.Y))
	l = append(append(l, points...), int(e))
	text, e := chart.Write(c)
	return append(l, int(e)), text
}

// P1.16, R4: no argument is changed, nor the memory behind its ends.
func TestArgumentsAreKept(t *testing.T) {
	d := newDice(16)
	for i := range 100 {
		c := d.marks(d.sands(d.from(1, 3), 8, d.from(0, 4)), d.from(1, 6), 20)
		if i%3 == 1 {
			c.Marks[0].Paints[0].Day = -1
		}
		if i%3 == 2 {
			slices.Reverse(c.Sands[0].Corners)
		}
		marks, sands := len(c.Marks), len(c.Sands)
		c.Marks = append(c.Marks, mark("z", point(9, 9), 1, 1))[:marks]
		c.Sands = append(c.Sands, sand("z", box(1, 2, 3, 4), 0, 0, 1, 0, 0, 1))[:sands]
		for k := range c.Marks {
			n := len(c.Marks[k].Paints)
			c.Marks[k].Paints = append(c.Marks[k].Paints, api.CtPaint{Day: 9999, Colour: 4})[:n]
		}
		for k := range c.Sands {
			n := len(c.Sands[k].Corners)
			c.Sands[k].Corners = append(c.Sands[k].Corners, point(7, 7))[:n]
		}
		before := clone(c)
		answers(c, d.place(20), d.from(0, 300), d.from(-1, 6), d.from(-1, 60))
		if !same(c, before) || c.Marks[:marks+1][marks].Name != "z" || c.Sands[:sands+1][sands].Name != "z" {
			t.Fatalf("%v was changed to %v", before, c)
		}
		for _, m := range c.Marks {
			if n := len(m.Paints); m.Paints[:n+1][n] != (api.CtPaint{Day: 9999, Colour: 4}) {
				t.Fatalf("the memory behind the paints of %v was changed", m)
			}
		}
		for _, s := range c.Sands {
			if n := len(s.Corners); s.Corners[:n+1][n] != point(7, 7) {
				t.Fatalf("the memory behind the corners of %v was changed", s)
			}
		}
	}
}

// P1.16, R4: results are new memory, and share none with each other.
func TestResultsAreNew(t *testing.T) {
	c := sandsOnly(sand("a", box(0, 0, 0, 0), 0, 0, 9, 0, 9, 9), sand("b", box(0, 0, 0, 0), 0, 0, 9, 0, 9, 9))
	sure, some := mustOn(t, c, point(5, 2))
	sure[0], sure[1] = 8, 9
	if !slices.Equal(some, []int{0, 1}) {
		t.Errorf("both lists of On share memory")
	}
	some[0], some[1] = 7, 6
	_ = append(sure[:1], 5, 5, 5)
	if sure, some := mustOn(t, c, point(5, 2)); !slices.Equal(sure, []int{0, 1}) || !slices.Equal(some, []int{0, 1}) {
		t.Errorf("On = %v, %v behind a change of what it returned", sure, some)
	}
	all, _ := chart.Points(example(), 20, 1, box(-2010, -1990, 0, 0))
	all[0] = 31
	if l, e := chart.Points(example(), 20, 1, box(-2010, -1990, 0, 0)); !slices.Equal(l, []int{8, 24}) || e != api.OK {
		t.Errorf("Points = %v, %d behind a change of what it returned", l, e)
	}
	x, _ := chart.Read(exampleText)
	for i := range x.Marks {
		x.Marks[i].Paints[0].Colour = 4
		_ = append(x.Marks[i].Paints[:1], paints(1, 1, 2, 2, 3, 3, 4, 4)...)
	}
	for i := range x.Sands {
		x.Sands[i].Corners[0] = point(1, 1)
		_ = append(x.Sands[i].Corners[:1], points(1, 1, 2, 2, 3, 3, 4, 4, 5, 5, 6, 6)...)
	}
	if y, e := chart.Read(exampleText); !same(y, example()) || e != api.OK {
		t.Errorf("Read = %v, %d behind a change of what it returned", y, e)
	}
	y, _ := chart.Read(exampleText)
	y.Marks[0].Paints[0].Day, y.Sands[0].Corners[0].X = 7, 7
	if y.Marks[1].Paints[0].Day != 10 || y.Sands[1].Corners[0].X != -300 {
		t.Errorf("parts of what Read returns share memory")
	}
}

// R3: a nil slice and an empty one are the same.
func TestNilAndEmpty(t *testing.T) {
	c := api.CtChart{Marks: []api.CtMark{{Name: "a", Paints: []api.CtPaint{}}}}
	expectCheck(t, "empty paints", c, 1, 0, api.ErrLong)
	c.Marks[0].Paints = nil
	expectCheck(t, "no paints", c, 1, 0, api.ErrLong)
	c = sandsOnly(api.CtSand{Name: "a", Corners: []api.Point{}})
	expectCheck(t, "empty corners", c, 2, 0, api.ErrLong)
	for _, c := range []api.CtChart{{}, {Marks: []api.CtMark{}, Sands: []api.CtSand{}}} {
		if s, e := chart.Write(c); s != "" || e != api.OK {
			t.Errorf("Write = %q, %d", s, e)
		}
		if r := mustRadius(t, c, point(0, 0)); r != api.MaxCtRadius {
			t.Errorf("Radius = %d", r)
		}
	}
}

// R4: nothing is kept between calls, whatever was asked before, or is asked at the same time.
func TestNothingIsKept(t *testing.T) {
	d := newDice(17)
	type asked struct {
		c            api.CtChart
		at           api.Point
		day, mark, r int
		numbers      []int
		text         string
	}
	var l []asked
	for range 40 {
		a := asked{c: d.marks(d.sands(d.from(1, 3), 8, d.from(0, 4)), 3, 20), at: d.place(20), day: d.from(0, 300), mark: d.from(0, 2), r: d.from(0, 40)}
		a.numbers, a.text = answers(a.c, a.at, a.day, a.mark, a.r)
		l = append(l, a)
	}
	var all sync.WaitGroup
	for k := range 4 {
		all.Go(func() {
			for i := range l {
				a := l[(i*7+k*11)%len(l)]
				if n, s := answers(a.c, a.at, a.day, a.mark, a.r); !slices.Equal(n, a.numbers) || s != a.text {
					t.Errorf("%v: %v, %q; it was %v, %q", a.c, n, s, a.numbers, a.text)
				}
			}
		})
	}
	all.Wait()
}

// P1, R5: any arguments are accepted.
func TestAnyArguments(t *testing.T) {
	numbers := append([]int{-1, 0, 1, 31, 40, 500, 10000, 30000}, far...)
	wild := []api.CtChart{
		{}, example(), full(),
		{Marks: []api.CtMark{{Name: "a", At: point(math.MinInt, math.MaxInt), Paints: paints(math.MinInt, math.MaxInt)}}},
		{Marks: []api.CtMark{{Name: "a", Paints: paints(1, math.MaxInt, math.MinInt, 1)}}},
		sandsOnly(sand("a", box(math.MinInt, math.MaxInt, math.MinInt, math.MaxInt), 0, 0, 1, 0, 0, 1)),
		sandsOnly(sand("a", box(math.MaxInt, math.MinInt, math.MaxInt, math.MinInt), 0, 0, 1, 0, 0, 1)),
		sandsOnly(sand("a", box(0, 0, 0, 0), math.MinInt, math.MinInt, math.MaxInt, math.MinInt, 0, math.MaxInt)),
		sandsOnly(api.CtSand{}), {Marks: make([]api.CtMark, 3)},
	}
	for _, c := range wild {
		for _, n := range numbers {
			for _, m := range []int{n, 0, 1} {
				answers(c, point(n, m), m, n, n)
				answers(c, point(m, n), n, m, m)
			}
			chart.Points(c, 20, 1, box(n, math.MaxInt, math.MinInt, n))
			chart.Points(c, 20, 1, box(math.MaxInt, n, n, math.MinInt))
		}
	}
}
