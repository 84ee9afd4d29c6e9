package tender_test

import (
	"fmt"
	"slices"
	"testing"

	"nore/api"
	"nore/tender"
)

// The chapter's examples of Fewest and Must.
func TestFewestExamples(t *testing.T) {
	expectFewest(t, "S", exampleS(), exampleP(), api.OK)
	expectFewest(t, "T", exampleT(), both(5, 12), api.OK)
	expectFewest(t, "U", exampleU(), orders(order(3, oil), order(8, men), order(12, oil), order(15, men)), api.OK)
	expectMust(t, "S", exampleS(), []int{3, 5, 8, 12, 15}, api.OK)
	expectMust(t, "T", exampleT(), nil, api.OK)
}

// P9.5: no plan holds, or one without orders does.
func TestFewestEnds(t *testing.T) {
	s := exampleT()
	s.Possible = nil
	expectFewest(t, "no days", s, nil, api.ErrDown)
	expectMust(t, "no days", s, nil, api.ErrDown)
	s.Days = 6
	expectFewest(t, "no days are needed", s, nil, api.OK)
	expectMust(t, "no days are needed", s, nil, api.OK)
	s.Possible = []int{0, 3, 5}
	expectFewest(t, "no days are needed, though there are some", s, nil, api.OK)
	expectMust(t, "no days are needed, though there are some", s, nil, api.OK)
	s.Load, s.Fail, s.Row = 1, 8, 8
	expectFewest(t, "nothing is needed, and everything is too heavy", s, nil, api.OK)
	expectMust(t, "nothing is needed, and everything is too heavy", s, nil, api.OK)
	s.Days = 7
	expectFewest(t, "everything is too heavy", s, nil, api.ErrDown)
	expectMust(t, "everything is too heavy", s, nil, api.ErrDown)
	s.Load = 2
	expectFewest(t, "what is needed is too heavy", s, nil, api.ErrDown)
	s.Load = 3
	expectFewest(t, "what is needed is not too heavy, but all can fail", s, nil, api.ErrDown)
	s.Row = 2
	expectFewest(t, "one of three in a row comes", s, orders(order(0, oil), order(3, oil), order(5, oil)), api.OK)
	expectMust(t, "one of three in a row comes", s, []int{0, 3, 5}, api.OK)
	s.Row = 1
	expectFewest(t, "one of two in a row comes", s, orders(order(0, oil), order(3, oil)), api.OK)
	expectMust(t, "one of two in a row comes", s, nil, api.OK)
	expectFewest(t, "all can fail", withFail(exampleS(), 2), nil, api.ErrDown)
	expectMust(t, "all can fail", withFail(exampleS(), 2), nil, api.ErrDown)
	one := lone(7, 6, 6)
	one.Fail, one.Possible = 0, []int{6}
	expectFewest(t, "just the last day", one, orders(order(6, 0)), api.OK)
	expectMust(t, "just the last day", one, []int{6}, api.OK)
	one.Possible = []int{0}
	expectFewest(t, "just the first day", one, nil, api.ErrDown)
	one.Needs[0].First, one.Days = 0, 6
	expectFewest(t, "just the first day, when nothing is there", one, orders(order(0, 0)), api.OK)
	expectMust(t, "just the first day, when nothing is there", one, []int{0}, api.OK)
}

// P9.5: of several with the fewest orders, the first one by its days, and then by its cargos.
func TestFewestOrder(t *testing.T) {
	s := api.TeSeason{
		Days: 6,
		Needs: []api.TeNeed{
			{Name: "a", Full: 9, First: 3, Weight: 2},
			{Name: "b", Full: 9, First: 4, Weight: 2},
			{Name: "c", Full: 9, First: 9, Weight: 1},
		},
		Load:     5,
		Row:      1,
		Possible: []int{1, 2, 3, 4},
	}
	const a, b, c = 0, 1, 2
	expectFewest(t, "all fits", s, orders(order(1, a, b, c)), api.OK)
	expectMust(t, "all fits", s, nil, api.OK)
	s.Load = 4
	expectFewest(t, "what fits beside", s, orders(order(1, a, b)), api.OK)
	s.Load = 3
	expectFewest(t, "two days, the first cargos", s, orders(order(1, a, c), order(2, b, c)), api.OK)
	s.Load = 2
	expectFewest(t, "two days, each with one need", s, orders(order(1, a), order(2, b)), api.OK)
	s.Needs[a].First, s.Needs[b].First = 4, 1
	expectFewest(t, "two days, the second need first", s, orders(order(1, b), order(2, a)), api.OK)
	s.Needs[a].Full, s.Needs[a].First = 4, 4
	expectFewest(t, "the first days do not do", s, orders(order(1, b), order(2, a)), api.OK)
	s.Days = 7
	expectFewest(t, "the first days do not do, but the first and the third do", s, orders(order(1, b), order(3, a)), api.OK)
	expectMust(t, "the first one is needed", s, []int{1}, api.OK)
	s.Needs[c].First = 1
	expectFewest(t, "one day too few for this", s, nil, api.ErrDown)
	// Fewer orders come before earlier days.
	one := lone(9, 5, 4)
	one.Fail, one.Possible = 0, []int{1, 2, 3, 4}
	expectFewest(t, "one late order", one, orders(order(4, 0)), api.OK)
	one.Days = 10
	expectFewest(t, "two orders", one, nil, api.ErrDown)
	one.Possible = []int{1, 2, 3, 4, 6}
	expectFewest(t, "two orders, the first ones", one, orders(order(1, 0), order(6, 0)), api.OK)
	expectMust(t, "two orders, the first ones", one, []int{6}, api.OK)
}

// P9.5: a cargo is full if no other need can be added, each for itself.
func TestFullCargos(t *testing.T) {
	s := full()
	s.Days, s.Fail, s.Row = 2, 0, 1
	s.Possible = []int{0, 1}
	for load := 1; load <= 30; load++ {
		for _, weights := range [][]int{{7, 11, 2}, {1, 1, 1}, {10, 10, 10}, {5, 4, 9}, {30, 15, 15}} {
			for need := range s.Needs {
				s.Needs[need].Weight, s.Needs[need].First = weights[need], 2
			}
			s.Load = load
			for need := range s.Needs {
				s := clone(s)
				s.Needs[need].First = 0
				what := fmt.Sprint(need, " is needed, with a load of ", load, " and weights ", weights)
				if weights[need] > load {
					expectFewest(t, what, s, nil, api.ErrDown)
					continue
				}
				p, e := tender.Fewest(s)
				if e != api.OK || len(p) != 1 || p[0].Day != 0 || !slices.Contains(p[0].Cargo, need) || !isFull(s, p[0].Cargo) {
					t.Fatalf("%s: Fewest = %v, %d", what, p, e)
				}
				expectPlan(t, what, s, p, 0, api.OK)
			}
		}
	}
}

// P9.5: if more can fail than in a row, it is not enough to look at plans with as many orders as can be: with one more between them two others can fail.
func TestMoreOrdersFail(t *testing.T) {
	s := lone(8, 8, 4)
	s.Needs = append(s.Needs, api.TeNeed{Name: "men", Full: 8, First: 8, Weight: 1})
	s.Fail, s.Row, s.Possible = 2, 1, []int{1, 2, 3}
	expectBreaks(t, "one of two comes", s, orders(order(1, 0), order(3, 0)), nil, 0, 0, api.ErrNone)
	expectBreaks(t, "both fail", s, orders(order(1, 0), order(2, 1), order(3, 0)), []int{0, 2}, 4, 0, api.OK)
	expectFewest(t, "coal and men", s, each([]int{0}, 1, 2), api.OK)
	expectMust(t, "coal and men", s, nil, api.OK)
}

// P9.5: Fewest and Must are as they are defined.
func TestFewestIsTheDefinition(t *testing.T) {
	d := newDice(3)
	var sizes [7]int
	down, musts := 0, 0
	for i := range 700 {
		s := d.someHope([]int{5, 10, 20, 60}[i%4], 2+i%2, []int{4, 3, 4, 3}[i%4])
		if i%3 == 0 {
			s = d.someHope(12, 1, 6)
		}
		what := fmt.Sprint(s)
		want, ok := fewestOf(s)
		if !ok {
			down++
			expectFewest(t, what, s, nil, api.ErrDown)
			expectMust(t, what, s, nil, api.ErrDown)
			continue
		}
		sizes[len(want)]++
		expectFewest(t, what, s, want, api.OK)
		must := mustOf(s)
		musts += len(must)
		expectMust(t, what, s, must, api.OK)
		if t.Failed() {
			return
		}
	}
	if down < 100 || sizes[0] < 20 || sizes[1] < 60 || sizes[2] < 40 || sizes[3] < 12 || musts < 60 {
		t.Errorf("so often no plan held: %d, so many orders were enough: %v, so many days had to be ordered: %d", down, sizes, musts)
	}
}
