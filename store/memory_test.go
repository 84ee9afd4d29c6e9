package store_test

import (
	"slices"
	"sync"
	"testing"

	"nore/api"
	"nore/store"
)

// answers are what all functions return, as one list of numbers.
func answers(s api.SrStores, l []api.SrCount, kind, day int, x api.SrTruth) (r []int) {
	add := func(e api.Errno, n ...int) { r = append(append(r, n...), int(e)) }
	part, at, e := store.Check(s)
	add(e, part, at)
	levels, short, e := store.Mornings(s, kind, x, day)
	add(e, levels...)
	add(e, short)
	level, e := store.Level(s, l, kind, day)
	add(e, level.Lo, level.Hi)
	n, e := store.Lasts(s, l, kind)
	add(e, n)
	y, on, e := store.Short(s, l, kind)
	add(e, y.First, y.Man, y.Ship, on)
	n, e = store.Cargo(s, l, kind, day)
	add(e, n)
	n, e = store.Ration(s, l, kind)
	add(e, n)
	wrong, e := store.Wrong(s, l)
	add(e, wrong...)
	return r
}

// These are put into the memory behind the ends of lists.
var (
	behindKind  = api.SrKind{Name: "behind", Room: 77}
	behindCargo = cargo(7, 77, 777)
	behindCount = count(7, 77, 777, 7777)
)

// withRoom is a list with something in the memory behind its end.
func withRoom[T any](l []T, behind T) []T { return append(slices.Clip(l), behind)[:len(l)] }

// behind is what is in the memory behind the end of a list.
func behind[T any](l []T) T { return l[:len(l)+1][len(l)] }

// asked is what all functions are asked.
type asked struct {
	s         api.SrStores
	l         []api.SrCount
	kind, day int
	x         api.SrTruth
}

func (a asked) answers() []int { return answers(a.s, a.l, a.kind, a.day, a.x) }

// someAsked is something random that is asked, mostly without an error.
func (d dice) someAsked(i int) asked {
	s, l := d.someCase(i)
	a := asked{s: s, l: l, kind: d.IntN(len(s.Kinds)), day: d.from(0, len(s.Men))}
	a.x = d.someTruths(s)[a.kind]
	switch i % 10 {
	case 7:
		a.s.Men[0] = 13
	case 8:
		a.l = append(a.l, count(0, 0, 2, 1))
	case 9:
		a.kind = len(s.Kinds)
	}
	return a
}

// P8.15, R4: no argument is changed, nor the memory behind its ends.
func TestArgumentsStay(t *testing.T) {
	d := newDice(13)
	for i := range 500 {
		a := d.someAsked(i)
		a.s = api.SrStores{Men: withRoom(a.s.Men, 77), Kinds: withRoom(a.s.Kinds, behindKind), Cargos: withRoom(a.s.Cargos, behindCargo)}
		a.l = withRoom(a.l, behindCount)
		kept, keptCounts := clone(a.s), slices.Clone(a.l)
		a.answers()
		if !same(a.s, kept) || !slices.Equal(a.l, keptCounts) {
			t.Fatalf("%v, %v was changed; it was %v, %v", a.s, a.l, kept, keptCounts)
		}
		if behind(a.s.Men) != 77 || behind(a.s.Kinds) != behindKind || behind(a.s.Cargos) != behindCargo || behind(a.l) != behindCount {
			t.Fatalf("behind the ends of %v, %v something was changed", a.s, a.l)
		}
	}
}

// fill writes something into all of a list, and into the memory behind its end.
func fill[T any](l []T, x T) {
	l = l[:cap(l)]
	for i := range l {
		l[i] = x
	}
}

// P8.15, R4: results are new memory: what is written into one is not in another one, nor in an argument.
func TestResultsAreNew(t *testing.T) {
	s, l := exampleS(), counts(exampleC(), count(2, oil, 0, 24), count(0, water, 0, 0))
	kept, keptCounts := clone(s), slices.Clone(l)
	before := answers(s, l[:1], oil, 2, truth(45, 0, 10))
	for range 3 {
		levels, _, _ := store.Mornings(s, oil, truth(45, 0, 10), 5)
		again, _, _ := store.Mornings(s, oil, truth(45, 0, 10), 5)
		wrong, _ := store.Wrong(s, l)
		if len(levels) != 6 || !slices.Equal(wrong, []int{0, 2}) {
			t.Fatalf("Mornings = %v, Wrong = %v", levels, wrong)
		}
		fill(levels, 77)
		fill(wrong, 77)
		if !slices.Equal(again, []int{45, 35, 25, 15, 5, 0}) {
			t.Fatalf("behind a change of a result another one is %v", again)
		}
		if !same(s, kept) || !slices.Equal(l, keptCounts) {
			t.Fatalf("behind a change of results the arguments are %v, %v", s, l)
		}
	}
	if after := answers(s, l[:1], oil, 2, truth(45, 0, 10)); !slices.Equal(before, after) {
		t.Errorf("behind a change of results: %v; it was %v", after, before)
	}
}

// R4: nothing is kept between calls, whatever was asked before, or is asked at the same time; the same call has the same result.
func TestNothingIsKept(t *testing.T) {
	d := newDice(14)
	var all []asked
	var want [][]int
	for i := range 80 {
		a := d.someAsked(i)
		all = append(all, a)
		want = append(want, a.answers())
	}
	var workers sync.WaitGroup
	for k := range 4 {
		workers.Go(func() {
			for i := range all {
				at := (i*7 + k*11) % len(all)
				if n := all[at].answers(); !slices.Equal(n, want[at]) {
					t.Errorf("%v: %v; it was %v", all[at], n, want[at])
				}
			}
		})
	}
	workers.Wait()
}

// R3: a nil slice and an empty one are the same value.
func TestNilAndEmpty(t *testing.T) {
	s := exampleS()
	s.Cargos = nil
	before := answers(s, nil, oil, 3, truth(40, 0, 8))
	s.Cargos = []api.SrCargo{}
	if after := answers(s, []api.SrCount{}, oil, 3, truth(40, 0, 8)); !slices.Equal(before, after) {
		t.Errorf("with empty lists %v; with nil ones %v", after, before)
	}
	s.Men = []int{}
	expectCheck(t, "no days", s, 1, 0, api.ErrLong)
	s = exampleS()
	s.Kinds = []api.SrKind{}
	expectCheck(t, "no kinds", s, 1, 0, api.ErrLong)
}

// P1, P8.15, R5: any arguments are accepted.
func TestAnyArguments(t *testing.T) {
	numbers := append([]int{-1, 0, 1, 2, 3, 5, 6, 12, 13, 40, 300, 600, 1000}, far...)
	for _, n := range numbers {
		for _, k := range numbers {
			for _, change := range []func(s *api.SrStores){
				func(s *api.SrStores) {},
				func(s *api.SrStores) { s.Men[0], s.Men[4] = n, k },
				func(s *api.SrStores) { s.Kinds[oil].First = span(n, k) },
				func(s *api.SrStores) { s.Kinds[oil].Man = span(n, k) },
				func(s *api.SrStores) { s.Kinds[oil].Ship = span(n, k) },
				func(s *api.SrStores) { s.Kinds[oil].Room, s.Kinds[oil].Ration = n, k },
				func(s *api.SrStores) { s.Cargos[0].Day, s.Cargos[0].Kind = n, k },
				func(s *api.SrStores) { s.Cargos[0].Amount, s.Cargos[0].Kind = n, k },
			} {
				s := exampleS()
				change(&s)
				answers(s, counts(count(n, 0, 0, k)), 0, k, truth(n, k, k))
			}
			answers(exampleS(), counts(count(0, n, k, k), count(1, 0, n, k)), n, k, truth(n, n, k))
			answers(exampleS(), counts(count(1, 0, n, k)), k, n, truth(40, n, k))
		}
	}
	for _, s := range []api.SrStores{{}, {Men: make([]int, 3)}, {Kinds: make([]api.SrKind, 3)}, {Cargos: make([]api.SrCargo, 3)}, exampleS(), full()} {
		for _, l := range [][]api.SrCount{nil, make([]api.SrCount, 8), make([]api.SrCount, 1<<16), fullCounts()} {
			answers(s, l, 0, 0, api.SrTruth{})
			answers(s, l, 3, 30, truth(300, 6, 12))
		}
	}
}

// P1: the largest stores are answered, with counts that agree and with counts that do not.
func TestLargeStores(t *testing.T) {
	d := newDice(15)
	for i := range 12 {
		s := full()
		for day := range s.Men {
			s.Men[day] = d.from(0, 1+i)
		}
		for k := range s.Cargos {
			s.Cargos[k] = cargo(d.IntN(30), i%2*d.IntN(4), d.from(0, 300))
		}
		var l []api.SrCount
		for range 8 {
			l = append(l, count(d.from(0, 30), i%2*d.IntN(4), d.from(0, 40), d.from(41, 80)))
		}
		answers(s, l, 0, 15, truth(300, 0, 12))
		answers(s, nil, 0, 0, truth(0, 0, 0))
		wrong, e := store.Wrong(s, l)
		if _, g := store.Lasts(s, without(l, wrong), 0); e != api.OK || g != api.OK {
			t.Errorf("%v, %v: Wrong = %v, %d; without them Lasts has the error %d", s, l, wrong, e, g)
		}
		// What cannot be is found wrong whatever else is told.
		l = append(l[:7], count(d.from(0, 30), 0, 301, 600))
		if wrong, e := store.Wrong(s, l); e != api.OK || !slices.Contains(wrong, 7) {
			t.Errorf("%v, %v: Wrong = %v, %d", s, l, wrong, e)
		}
	}
	expectLevel(t, "full", full(), fullCounts(), 0, 30, span(216, 300), api.OK)
	expectLasts(t, "full", full(), fullCounts(), 0, 0, api.OK)
	expectShort(t, "full", full(), fullCounts(), 0, truth(0, 0, 1), 0, api.OK)
	expectWrong(t, "full", full(), fullCounts(), nil, api.OK)
}
