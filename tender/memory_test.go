package tender_test

import (
	"slices"
	"sync"
	"testing"

	"nore/api"
	"nore/tender"
)

// asked is what all functions are asked.
type asked struct {
	s      api.TeSeason
	p      []api.TeOrder
	failed []int
	came   []bool
	day    int
}

// answers are what all functions return, as one list of numbers.
func (a asked) answers() (r []int) {
	add := func(e api.Errno, n ...int) { r = append(append(r, n...), int(e)) }
	part, at, e := tender.Check(a.s)
	add(e, part, at)
	at, e = tender.Plan(a.s, a.p)
	add(e, at)
	left, e := tender.Left(a.s, a.p, a.failed, a.day)
	add(e, left...)
	day, need, e := tender.Out(a.s, a.p, a.failed)
	add(e, day, need)
	failed, day, need, e := tender.Breaks(a.s, a.p)
	add(e, failed...)
	add(e, day, need)
	worst, e := tender.Worst(a.s, a.p)
	add(e, worst...)
	n, e := tender.Bears(a.s, a.p)
	add(e, n)
	n, e = tender.Still(a.s, a.p, a.came)
	add(e, n)
	p, e := tender.Fewest(a.s)
	for _, o := range p {
		add(e, o.Day, len(o.Cargo))
		add(e, o.Cargo...)
	}
	add(e, len(p))
	must, e := tender.Must(a.s)
	add(e, must...)
	return r
}

// exampleAsked is what is asked of S.
func exampleAsked() asked {
	return asked{s: exampleS(), p: exampleQ(), failed: []int{1, 3}, came: []bool{true, false}, day: 11}
}

// someAsked is something random that is asked, mostly without an error.
func (d dice) someAsked(i int) asked {
	s, p := d.someCase(i)
	a := asked{s: s, p: p, failed: d.someFailed(len(p)), came: d.someCame(len(p)), day: d.IntN(s.Days)}
	switch i % 10 {
	case 7:
		a.s.Needs[0].Weight = 31
	case 8:
		a.p = append(a.p, order(0))
	case 9:
		a.failed = append(a.failed, len(p))
	}
	return a
}

// withRoom is a list with something in the memory behind its end.
func withRoom[T any](l []T, behind T) []T { return append(slices.Clip(l), behind)[:len(l)] }

// behind is what is in the memory behind the end of a list.
func behind[T any](l []T) T { return l[:len(l)+1][len(l)] }

// behindNeed is put into the memory behind the end of needs.
var behindNeed = api.TeNeed{Name: "behind", Full: 7, Weight: 7}

// withRooms is the same with something in the memory behind the end of each list.
func (a asked) withRooms() asked {
	a.s.Needs, a.s.Possible = withRoom(a.s.Needs, behindNeed), withRoom(a.s.Possible, 77)
	a.p = withRoom(cloneOf(a.p), order(7, 7))
	for i := range a.p {
		a.p[i].Cargo = withRoom(a.p[i].Cargo, 77)
	}
	a.failed, a.came = withRoom(a.failed, 77), withRoom(a.came, true)
	return a
}

// hasRooms reports whether what withRooms put behind the ends of the lists is still there.
func (a asked) hasRooms() bool {
	for _, o := range a.p {
		if behind(o.Cargo) != 77 {
			return false
		}
	}
	o := behind(a.p)
	return behind(a.s.Needs) == behindNeed && behind(a.s.Possible) == 77 && o.Day == 7 && slices.Equal(o.Cargo, []int{7}) && behind(a.failed) == 77 && behind(a.came)
}

// clone is the same in other memory.
func (a asked) clone() asked {
	a.s, a.p = clone(a.s), cloneOf(a.p)
	a.failed, a.came = slices.Clone(a.failed), slices.Clone(a.came)
	return a
}

// is reports whether the same is asked.
func (a asked) is(b asked) bool {
	return same(a.s, b.s) && sameOrders(a.p, b.p) && slices.Equal(a.failed, b.failed) && slices.Equal(a.came, b.came) && a.day == b.day
}

// P9.14, R4: no argument is changed, nor the memory behind its ends.
func TestArgumentsStay(t *testing.T) {
	d := newDice(12)
	for i := range 500 {
		a := d.someAsked(i).withRooms()
		kept := a.clone()
		a.answers()
		if !a.is(kept) {
			t.Fatalf("%v was changed; it was %v", a, kept)
		}
		if !a.hasRooms() {
			t.Fatalf("behind the ends of %v something was changed", a)
		}
	}
}

// fill writes something into all of a list, and into the memory behind its end.
func fill[T any](l []T, x T) {
	l = l[:cap(l)]
	for i := range l {
		l[i] = x
	}
}

// P9.14, R4: results are new memory: what is written into one is not in another one, nor in an argument.
func TestResultsAreNew(t *testing.T) {
	a := exampleAsked()
	kept := a.clone()
	before := a.answers()
	for range 3 {
		left, _ := tender.Left(a.s, a.p, a.failed, a.day)
		failed, _, _, _ := tender.Breaks(a.s, a.p)
		worst, _ := tender.Worst(a.s, a.p)
		must, _ := tender.Must(a.s)
		if len(left) != 2 || len(failed) != 1 || len(worst) != 2 || len(must) != 5 {
			t.Fatalf("Left = %v, Breaks = %v, Worst = %v, Must = %v", left, failed, worst, must)
		}
		for _, l := range [][]int{left, failed, worst, must} {
			fill(l, 77)
		}
		p, _ := tender.Fewest(a.s)
		again, _ := tender.Fewest(a.s)
		fill(p[0].Cargo, 77)
		for i, o := range p {
			if i > 0 && !slices.Equal(o.Cargo, []int{oil, men}) {
				t.Fatalf("behind a change of the cargo of the order 0 that of the order %d is %v", i, o.Cargo)
			}
		}
		fill(p, order(77))
		if !sameOrders(again, exampleP()) {
			t.Fatalf("behind a change of a result another one is %v", again)
		}
		if !a.is(kept) {
			t.Fatalf("behind a change of results the arguments are %v", a)
		}
	}
	if after := a.answers(); !slices.Equal(before, after) {
		t.Errorf("behind a change of results: %v; it was %v", after, before)
	}
}

// R4: nothing is kept between calls, whatever was asked before, or is asked at the same time; the same call has the same result.
func TestNothingIsKept(t *testing.T) {
	d := newDice(13)
	var all []asked
	var want [][]int
	for i := range 80 {
		a := d.someAsked(i)
		all = append(all, a)
		want = append(want, a.answers())
	}
	var workers sync.WaitGroup
	for k := range 4 {
		workers.Go(func() {
			for i := range all {
				at := (i*7 + k*11) % len(all)
				if n := all[at].answers(); !slices.Equal(n, want[at]) {
					t.Errorf("%v: %v; it was %v", all[at], n, want[at])
				}
			}
		})
	}
	workers.Wait()
}

// R3: a nil slice and an empty one are the same value.
func TestNilAndEmpty(t *testing.T) {
	for _, days := range []int{6, 20} {
		a := exampleAsked()
		a.s.Days, a.s.Possible, a.p, a.failed, a.came, a.day = days, nil, nil, nil, nil, 5
		before := a.answers()
		a.s.Possible, a.p, a.failed, a.came = []int{}, []api.TeOrder{}, []int{}, []bool{}
		if after := a.answers(); !slices.Equal(before, after) {
			t.Errorf("with empty lists %v; with nil ones %v", after, before)
		}
	}
	s := exampleS()
	s.Needs = []api.TeNeed{}
	expectCheck(t, "no needs", s, 2, 0, api.ErrLong)
	expectPlanError(t, "no cargo", exampleS(), orders(api.TeOrder{Day: 3, Cargo: []int{}}), 0, api.ErrLong)
}

// P1, P9.14, R5: any arguments are accepted.
func TestAnyArguments(t *testing.T) {
	numbers := append([]int{-1, 0, 1, 2, 3, 5, 8, 9, 10, 20, 30, 31, 60, 61}, far...)
	for _, n := range numbers {
		for _, k := range numbers {
			for _, change := range []func(a *asked){
				func(a *asked) { a.s.Days, a.day = n, k },
				func(a *asked) { a.s.Load, a.s.Needs[oil].Weight = n, k },
				func(a *asked) { a.s.Fail, a.s.Row = n, k },
				func(a *asked) { a.s.Needs[men].Full, a.s.Needs[men].First = n, k },
				func(a *asked) { a.s.Possible[0], a.s.Possible[4] = n, k },
				func(a *asked) { a.p[0].Day, a.p[3].Day = n, k },
				func(a *asked) { a.p[1].Cargo[0], a.p[1].Cargo[1] = n, k },
				func(a *asked) { a.failed[0], a.failed[1] = n, k },
				func(a *asked) { a.failed[1], a.day = n, k },
			} {
				a := exampleAsked()
				change(&a)
				a.answers()
			}
		}
	}
	many := asked{p: make([]api.TeOrder, 1<<16), failed: make([]int, 1<<16), came: make([]bool, 1<<16)}
	for _, s := range []api.TeSeason{{}, {Days: 3, Load: 3, Row: 3}, {Needs: make([]api.TeNeed, 3)}, exampleS(), full()} {
		for _, p := range [][]api.TeOrder{nil, make([]api.TeOrder, 8), many.p, fullPlan(), exampleP()} {
			asked{s: s, p: p}.answers()
			asked{s: s, p: p, failed: many.failed, came: many.came, day: 59}.answers()
			asked{s: s, p: p, failed: []int{0, 7}, came: make([]bool, 8), day: 59}.answers()
		}
	}
}

// P1: the largest seasons are answered, whether plans hold or not.
func TestLargeSeasons(t *testing.T) {
	a := asked{s: full(), p: fullPlan(), failed: picked(255, 8), came: make([]bool, 8), day: 59}
	a.answers()
	expectBreaks(t, "full", a.s, a.p, nil, 0, 0, api.ErrNone)
	expectWorst(t, "full", a.s, a.p, []int{1, 1, 1}, api.OK)
	d := newDice(14)
	for i := range 40 {
		s := full()
		s.Fail, s.Load, s.Possible = i%4, 60*(1+i%2)/4, d.days(s, 6)
		for need := range s.Needs {
			s.Needs[need] = api.TeNeed{Name: letter(need), Full: d.from(15, 50), First: d.from(10, 15), Weight: 15}
		}
		p, e := tender.Fewest(s)
		must, g := tender.Must(s)
		want, ok := fewestOf(s)
		switch {
		case e != g || ok != (e == api.OK) || !sameOrders(p, want):
			t.Errorf("%v: Fewest = %v, %d; it should be %v, %t; Must = %v, %d", s, p, e, want, ok, must, g)
		case ok:
			for _, day := range must {
				if !isOrdered(p, day) {
					t.Errorf("%v: Fewest = %v, %d; Must = %v, %d", s, p, e, must, g)
				}
			}
		}
	}
}
