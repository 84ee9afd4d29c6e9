package swing_test

import (
	"slices"
	"sync"
	"testing"

	"nore/api"
	"nore/swing"
)

// answers are what all functions return, as one list of numbers.
func answers(m api.SgMooring, l []api.SgLook, x api.SgLook, anchor, at api.Point) (r []int) {
	add := func(e api.Errno, n ...int) { r = append(append(r, n...), int(e)) }
	addPlaces := func(l []api.Point, e api.Errno) {
		for _, p := range l {
			r = append(r, p.X, p.Y)
		}
		add(e)
	}
	n, e := swing.Check(m)
	add(e, n)
	n, e = swing.CheckLooks(m, l)
	add(e, n)
	n, e = swing.Dragged(m, l)
	add(e, n)
	list, e := swing.Drags(m, l)
	add(e, list...)
	list, e = swing.Wrong(m, l)
	add(e, list...)
	addPlaces(swing.Anchors(m, l))
	addPlaces(swing.Places(m, l, x))
	p, sand, e := swing.Danger(m, l, x)
	add(e, p.X, p.Y, sand)
	is, e := swing.Lies(m, x, anchor, at)
	add(e)
	if is {
		r = append(r, 1)
	}
	return r
}

// These are put into the memory behind the ends of lists.
var (
	behindLook  = look(77, 7, 7, just(7, 7))
	behindPlace = point(-7, 7)
	behindSand  = sand("behind", just(1, 2), 0, 0, 1, 0, 0, 1)
	behindMark  = api.CtMark{Name: "behind", At: point(5, 6)}
	behindPaint = api.CtPaint{Day: 7, Colour: 3}
)

// withRoom is a list with something in the memory behind its end.
func withRoom[T any](l []T, behind T) []T { return append(slices.Clip(l), behind)[:len(l)] }

// behind is what is in the memory behind the end of a list.
func behind[T any](l []T) T { return l[:len(l)+1][len(l)] }

// roomy is a mooring whose lists have more memory behind their ends.
func roomy(m api.SgMooring) api.SgMooring {
	m = clone(m)
	for i := range m.Chart.Sands {
		m.Chart.Sands[i].Corners = withRoom(m.Chart.Sands[i].Corners, behindPlace)
	}
	for i := range m.Chart.Marks {
		m.Chart.Marks[i].Paints = withRoom(m.Chart.Marks[i].Paints, behindPaint)
	}
	m.Chart.Sands = withRoom(m.Chart.Sands, behindSand)
	m.Chart.Marks = withRoom(m.Chart.Marks, behindMark)
	return m
}

// P4.15, R4: no argument is changed, nor the memory behind its ends.
func TestArgumentsStay(t *testing.T) {
	d := newDice(15)
	for i := range 300 {
		m := d.mooring(d.near(), 8, d.from(1, 40))
		m.Chart.Marks = full().Chart.Marks[:2]
		if i%10 == 0 {
			m.Near = -1
		}
		m = roomy(m)
		l := withRoom(d.someLooks(m, 8, 6, 20)[:i%9], behindLook)
		kept, keptLooks := clone(m), slices.Clone(l)
		answers(m, l, d.someLooks(m, 1, 6, 0)[0], d.near(), d.near())
		if !same(m, kept) || !slices.Equal(l, keptLooks) {
			t.Fatalf("%v with %v was changed; it was %v with %v", m, l, kept, keptLooks)
		}
		if behind(m.Chart.Sands).Name != "behind" || behind(m.Chart.Marks).Name != "behind" || behind(l) != behindLook {
			t.Fatalf("behind the ends of %v, or of %v, something was changed", m, l)
		}
		for _, s := range m.Chart.Sands {
			if behind(s.Corners) != behindPlace {
				t.Fatalf("behind the corners of %v something was changed", s)
			}
		}
		for _, s := range m.Chart.Marks {
			if behind(s.Paints) != behindPaint {
				t.Fatalf("behind the paints of %v something was changed", s)
			}
		}
	}
}

// P4.15, R4: results are new memory: what is written into one is not in another one, nor in an argument.
func TestResultsAreNew(t *testing.T) {
	m, l := line(), from(0, 3, 5, 9, 0, 3, 5, 9)
	kept := slices.Clone(l)
	before := answers(m, l, l[0], point(1, 0), point(1, 0))
	for range 2 {
		drags, _ := swing.Drags(m, l)
		wrong, _ := swing.Wrong(m, l)
		anchors, _ := swing.Anchors(m, l[:1])
		places, _ := swing.Places(m, l[:1], l[2])
		if len(drags) != 3 || len(wrong) != 2 || len(anchors) != 4 || len(places) != 4 {
			t.Fatalf("Drags = %v, Wrong = %v, Anchors = %v, Places = %v", drags, wrong, anchors, places)
		}
		for _, r := range [][]int{drags, wrong} {
			for i := range r {
				r[i] = 77
			}
		}
		for _, r := range [][]api.Point{anchors, places} {
			for i := range r {
				r[i] = point(77, 77)
			}
		}
	}
	if after := answers(m, l, l[0], point(1, 0), point(1, 0)); !slices.Equal(before, after) || !slices.Equal(l, kept) || !same(m, line()) {
		t.Errorf("behind a change of results: %v; it was %v", after, before)
	}
}

// R4, P11: nothing is kept between calls, whatever was asked before, or is asked at the same time; the same call has the same result.
func TestNothingIsKept(t *testing.T) {
	d := newDice(16)
	type asked struct {
		m       api.SgMooring
		l       []api.SgLook
		x       api.SgLook
		p, q    api.Point
		numbers []int
	}
	var all []asked
	for i := range 60 {
		m := d.mooring(d.near(), 8, d.from(1, 40))
		a := asked{m: m, l: d.someLooks(m, i%9, 6, 10), x: d.someLooks(m, 1, 16, 0)[0], p: d.near(), q: d.near()}
		a.numbers = answers(a.m, a.l, a.x, a.p, a.q)
		all = append(all, a)
	}
	var workers sync.WaitGroup
	for k := range 4 {
		workers.Go(func() {
			for i := range all {
				a := all[(i*7+k*11)%len(all)]
				if n := answers(a.m, a.l, a.x, a.p, a.q); !slices.Equal(n, a.numbers) {
					t.Errorf("%v with %v: %v; it was %v", a.m, a.l, n, a.numbers)
				}
			}
		})
	}
	workers.Wait()
}

// R3: a nil slice and an empty one are the same value.
func TestNilAndEmpty(t *testing.T) {
	m := line()
	before := answers(m, nil, lookA, point(0, 0), point(0, 0))
	m.Chart.Marks, m.Chart.Sands = []api.CtMark{}, []api.CtSand{}
	if after := answers(m, []api.SgLook{}, lookA, point(0, 0), point(0, 0)); !slices.Equal(before, after) {
		t.Errorf("with empty lists %v; with nil ones %v", after, before)
	}
}

// P1, P4.15, R5: any arguments are accepted.
func TestAnyArguments(t *testing.T) {
	numbers := append([]int{-1, 0, 1, 16, 17, 31, 32, 200, 9000, 9001}, far...)
	for _, n := range numbers {
		for _, k := range numbers {
			wild := []api.SgMooring{{}, example(), line()}
			for _, change := range []func(m *api.SgMooring){
				func(m *api.SgMooring) { m.Anchor = box(n, k, k, n) },
				func(m *api.SgMooring) { m.Anchor = box(n, n, k, k) },
				func(m *api.SgMooring) { m.Ring, m.Near = span(n, k), n },
				func(m *api.SgMooring) { m.Chart.Sands[0].Moves = box(n, k, n, k) },
				func(m *api.SgMooring) { m.Chart.Sands[0].Corners[1] = point(n, k) },
			} {
				wild = append(wild, changed(change))
			}
			for _, m := range wild {
				for _, l := range [][]api.SgLook{nil, {look(n, k, n, just(k, n))}, {lookA, look(n, k, n, box(n, k, n, k)), lookW}, {lookA, look(100, 5, 6, box(n, k, k, n))}} {
					answers(m, l, look(k, n, k, box(k, n, n, k)), point(n, k), point(k, n))
					answers(m, l, look(5, 8, 2, box(n, k, k, n)), point(0, 0), point(k, n))
				}
			}
		}
	}
	for _, m := range []api.SgMooring{{}, {Chart: api.CtChart{Sands: make([]api.CtSand, 3)}}, {Chart: api.CtChart{Marks: make([]api.CtMark, 3)}}, full()} {
		answers(m, make([]api.SgLook, 3), api.SgLook{}, point(0, 0), point(0, 0))
		answers(m, make([]api.SgLook, 1000), api.SgLook{}, point(0, 0), point(0, 0))
	}
}
