package tender_test

import (
	"cmp"
	"math"
	"math/rand/v2"
	"slices"

	"nore/api"
	"nore/tender"
)

// far are ints far beyond all limits; cut down to 32 bits, some of them are small.
var far = []int{math.MinInt, math.MinInt + 1, -1 << 40, -1<<32 - 1, -1 << 32, -1<<32 + 1, math.MinInt32, math.MaxInt32, 1 << 32, 1<<32 + 1, 1<<32 + 2, 1 << 40, math.MaxInt - 1, math.MaxInt}

// These are the needs of the chapter's examples.
const (
	oil = iota
	men
)

// exampleS is S of the chapter's examples, and exampleT and exampleU its T and U.
func exampleS() api.TeSeason {
	return api.TeSeason{
		Days: 20,
		Needs: []api.TeNeed{
			{Name: "oil", Full: 10, First: 6, Weight: 3},
			{Name: "men", Full: 8, First: 8, Weight: 2},
		},
		Load:     5,
		Fail:     1,
		Row:      2,
		Possible: []int{3, 5, 8, 12, 15},
	}
}

func exampleT() api.TeSeason { return withFail(exampleS(), 0) }

func exampleU() api.TeSeason {
	s := exampleT()
	s.Load = 4
	return s
}

// exampleP, exampleQ and exampleR are P, Q and R of the chapter's examples.
func exampleP() []api.TeOrder { return both(3, 5, 8, 12, 15) }

func exampleQ() []api.TeOrder { return both(3, 5, 12, 15) }

func exampleR() []api.TeOrder { return both(5, 8, 12, 15) }

// withFail and withRow are a season with another Fail, and another Row.
func withFail(s api.TeSeason, fail int) api.TeSeason {
	s.Fail = fail
	return s
}

func withRow(s api.TeSeason, row int) api.TeSeason {
	s.Row = row
	return s
}

func order(day int, cargo ...int) api.TeOrder { return api.TeOrder{Day: day, Cargo: cargo} }

func orders(l ...api.TeOrder) []api.TeOrder { return l }

// both is a plan with oil and men on each of some days.
func both(days ...int) []api.TeOrder { return each([]int{oil, men}, days...) }

// each is a plan with the same cargo on each of some days.
func each(cargo []int, days ...int) (p []api.TeOrder) {
	for _, day := range days {
		p = append(p, order(day, slices.Clone(cargo)...))
	}
	return p
}

// lone is a season of so many days with one need, of which so much is there at first and when it is brought, and on whose days up to 8 orders can fail.
func lone(days, full, first int) api.TeSeason {
	return api.TeSeason{Days: days, Needs: []api.TeNeed{{Name: "coal", Full: full, First: first, Weight: 1}}, Load: 1, Fail: 8, Row: 8}
}

// full is a season with as much of all, and with all numbers as great, as can be.
func full() api.TeSeason {
	s := api.TeSeason{Days: 60, Load: 30, Fail: 8, Row: 8}
	for i := range api.MaxTeNeeds {
		s.Needs = append(s.Needs, api.TeNeed{Name: "need-number-" + letter(i), Full: 60, First: 60, Weight: 30})
	}
	for i := range api.MaxTePossible {
		s.Possible = append(s.Possible, 54+i)
	}
	return s
}

// fullPlan is a plan of full with as many orders as can be, on the last days.
func fullPlan() (p []api.TeOrder) {
	for i := range api.MaxTeOrders {
		p = append(p, order(52+i, i%3))
	}
	return p
}

// letter is a name.
func letter(i int) string { return string(rune('a' + i)) }

func clone(s api.TeSeason) api.TeSeason {
	s.Needs, s.Possible = slices.Clone(s.Needs), slices.Clone(s.Possible)
	return s
}

func cloneOf(p []api.TeOrder) []api.TeOrder {
	p = slices.Clone(p)
	for i := range p {
		p[i].Cargo = slices.Clone(p[i].Cargo)
	}
	return p
}

// same reports whether seasons are equal, and sameOrders whether plans are.
func same(a, b api.TeSeason) bool {
	return a.Days == b.Days && a.Load == b.Load && a.Fail == b.Fail && a.Row == b.Row && slices.Equal(a.Needs, b.Needs) && slices.Equal(a.Possible, b.Possible)
}

func sameOrders(a, b []api.TeOrder) bool {
	return slices.EqualFunc(a, b, func(x, y api.TeOrder) bool { return x.Day == y.Day && slices.Equal(x.Cargo, y.Cargo) })
}

// What follows holds the chapter's definitions, as they stand there, against the package: morning by morning, set by set, plan by plan.

// leftOf are the days left of each need in each morning, with failures.
func leftOf(s api.TeSeason, p []api.TeOrder, failed []int) (mornings [][]int) {
	for day := range s.Days {
		left := make([]int, len(s.Needs))
		for need, n := range s.Needs {
			left[need] = n.First
			if day > 0 {
				left[need] = max(mornings[day-1][need]-1, 0)
			}
			for i, o := range p {
				if o.Day == day && !slices.Contains(failed, i) && slices.Contains(o.Cargo, need) {
					left[need] = n.Full
				}
			}
		}
		mornings = append(mornings, left)
	}
	return mornings
}

// outOf is the first day on which a need has run out, and the first such need; -1 if there is none.
func outOf(s api.TeSeason, p []api.TeOrder, failed []int) (day, need int) {
	for day, left := range leftOf(s, p, failed) {
		for need, n := range left {
			if n == 0 {
				return day, need
			}
		}
	}
	return -1, -1
}

// picked are the numbers below n that are in a set.
func picked(set, n int) (l []int) {
	for i := range n {
		if set&(1<<i) != 0 {
			l = append(l, i)
		}
	}
	return l
}

// inRow reports whether so many of some failures are orders one after the other, one of them from an order on.
func inRow(failed []int, many, from int) bool {
	for i := range failed {
		last := i + many - 1
		if last < len(failed) && failed[last] == failed[i]+many-1 && failed[last] >= from {
			return true
		}
	}
	return false
}

// possibleOf are all possible failures of so many orders.
func possibleOf(s api.TeSeason, n int) (all [][]int) {
	for set := range 1 << n {
		if failed := picked(set, n); len(failed) <= s.Fail && !inRow(failed, s.Row+1, 0) {
			all = append(all, failed)
		}
	}
	return all
}

// holdsOf reports whether a plan holds.
func holdsOf(s api.TeSeason, p []api.TeOrder) bool {
	for _, failed := range possibleOf(s, len(p)) {
		if day, _ := outOf(s, p, failed); day >= 0 {
			return false
		}
	}
	return true
}

// breaksOf is what Breaks has to tell; the day is -1 if the plan holds.
func breaksOf(s api.TeSeason, p []api.TeOrder) (best []int, day, need int) {
	day = -1
	for _, failed := range possibleOf(s, len(p)) {
		d, n := outOf(s, p, failed)
		if d < 0 {
			continue
		}
		better := day < 0 || d < day
		if d == day {
			better = n < need
			if n == need {
				better = len(failed) < len(best) || len(failed) == len(best) && slices.Compare(failed, best) < 0
			}
		}
		if better {
			best, day, need = failed, d, n
		}
	}
	return best, day, need
}

// worstOf is what Worst has to tell.
func worstOf(s api.TeSeason, p []api.TeOrder) []int {
	worst := slices.Repeat([]int{math.MaxInt}, len(s.Needs))
	for _, failed := range possibleOf(s, len(p)) {
		for _, left := range leftOf(s, p, failed) {
			for need, n := range left {
				worst[need] = min(worst[need], n)
			}
		}
	}
	return worst
}

// bearsOf is what Bears has to tell; -1 if the plan breaks without failures.
func bearsOf(s api.TeSeason, p []api.TeOrder) int {
	for n := len(p); n >= 0; n-- {
		if holdsOf(withFail(s, n), p) {
			return n
		}
	}
	return -1
}

// furtherOf are the failures of outcomes, with any further ones that are possible with a number.
func furtherOf(s api.TeSeason, n int, came []bool, number int) (all [][]int) {
	told := 0
	for i, is := range came {
		if !is {
			told |= 1 << i
		}
	}
	for more := range 1 << (n - len(came)) {
		failed := picked(told|more<<len(came), n)
		if len(picked(more, n)) <= number && !inRow(failed, s.Row+1, len(came)) {
			all = append(all, failed)
		}
	}
	return all
}

// stillOf is what Still has to tell; -1 if the plan does not hold even if all orders behind the outcomes come.
func stillOf(s api.TeSeason, p []api.TeOrder, came []bool) int {
	for number := len(p) - len(came); number >= 0; number-- {
		if !slices.ContainsFunc(furtherOf(s, len(p), came, number), func(failed []int) bool {
			day, _ := outOf(s, p, failed)
			return day >= 0
		}) {
			return number
		}
	}
	return -1
}

// weightOf is how heavy a cargo is.
func weightOf(s api.TeSeason, cargo []int) (weight int) {
	for _, need := range cargo {
		weight += s.Needs[need].Weight
	}
	return weight
}

// isFull reports whether a cargo is a full one.
func isFull(s api.TeSeason, cargo []int) bool {
	for need, n := range s.Needs {
		if !slices.Contains(cargo, need) && weightOf(s, cargo)+n.Weight <= s.Load {
			return false
		}
	}
	return true
}

// plansOf are all plans with orders on some days alone, and with cargos of which something is so.
func plansOf(s api.TeSeason, days []int, is func(cargo []int) bool) [][]api.TeOrder {
	all := [][]api.TeOrder{nil}
	for _, day := range days {
		for _, p := range all {
			for set := range 1 << len(s.Needs) {
				if cargo := picked(set, len(s.Needs)); len(cargo) > 0 && weightOf(s, cargo) <= s.Load && is(cargo) {
					all = append(all, append(slices.Clip(p), order(day, cargo...)))
				}
			}
		}
	}
	return all
}

// holding are those of some plans that hold.
func holding(s api.TeSeason, plans [][]api.TeOrder) (all [][]api.TeOrder) {
	for _, p := range plans {
		if holdsOf(s, p) {
			all = append(all, p)
		}
	}
	return all
}

// anyCargo is so of any cargo.
func anyCargo([]int) bool { return true }

// fewestOf is what Fewest has to tell, and whether there is such a plan.
func fewestOf(s api.TeSeason) ([]api.TeOrder, bool) {
	all := holding(s, plansOf(s, s.Possible, func(cargo []int) bool { return isFull(s, cargo) }))
	if len(all) == 0 {
		return nil, false
	}
	return slices.MinFunc(all, func(p, q []api.TeOrder) int {
		byDay := func(a, b api.TeOrder) int { return cmp.Compare(a.Day, b.Day) }
		byCargo := func(a, b api.TeOrder) int { return slices.Compare(a.Cargo, b.Cargo) }
		return cmp.Or(cmp.Compare(len(p), len(q)), slices.CompareFunc(p, q, byDay), slices.CompareFunc(p, q, byCargo))
	}), true
}

// mustOf is what Must has to tell if some plan holds.
func mustOf(s api.TeSeason) (must []int) {
	all := holding(s, plansOf(s, s.Possible, anyCargo))
	for _, day := range s.Possible {
		if !slices.ContainsFunc(all, func(p []api.TeOrder) bool { return !isOrdered(p, day) }) {
			must = append(must, day)
		}
	}
	return must
}

// isOrdered reports whether a plan has an order on a day.
func isOrdered(p []api.TeOrder, day int) bool {
	return slices.ContainsFunc(p, func(o api.TeOrder) bool { return o.Day == day })
}

// holds reports whether Breaks says that a plan holds.
func holds(s api.TeSeason, p []api.TeOrder) bool {
	_, _, _, e := tender.Breaks(s, p)
	return e == api.ErrNone
}

// dice are random numbers that are the same in each run.
type dice struct{ *rand.Rand }

func newDice(seed uint64) dice { return dice{rand.New(rand.NewPCG(seed, 9))} }

// from is a random number from lo to hi.
func (d dice) from(lo, hi int) int { return lo + d.IntN(hi-lo+1) }

// days are so many random days of a season, ascending, or all if there are fewer.
func (d dice) days(s api.TeSeason, n int) []int {
	l := d.Perm(s.Days)[:min(n, s.Days)]
	slices.Sort(l)
	return l
}

// someSeason is a random season of at most so many days with at most so many needs and possible days.
func (d dice) someSeason(days, needs, possible int) api.TeSeason {
	s := api.TeSeason{Days: d.from(1, days), Fail: d.IntN(4), Row: d.from(1, 3)}
	for i := range d.from(1, needs) {
		n := api.TeNeed{Name: letter(i), Full: d.from(max(1, s.Days/(2+d.IntN(2))), s.Days), Weight: d.from(1, 9)}
		n.First = d.from((n.Full+1)/2, n.Full)
		if d.IntN(8) == 0 {
			n.First = d.from(0, n.Full)
		}
		s.Needs = append(s.Needs, n)
	}
	if d.IntN(8) == 0 {
		s.Fail, s.Row = d.from(0, api.MaxTeOrders), d.from(1, api.MaxTeOrders)
	}
	s.Load = d.from(1, 27)
	if d.IntN(2) == 0 {
		s.Load = 27 // enough for all
	}
	s.Possible = d.days(s, d.from(0, possible))
	return s
}

// someHope is a random season of which some plan with so many possible days is more likely to hold.
func (d dice) someHope(days, needs, possible int) api.TeSeason {
	s := d.someSeason(days, needs, possible)
	if d.IntN(3) > 0 {
		s.Fail = min(s.Fail, d.IntN(2))
		s.Possible = d.days(s, possible)
	}
	return s
}

// cargo is a random cargo that is not too heavy; none if there is no such one.
func (d dice) cargo(s api.TeSeason) (cargo []int) {
	room := s.Load
	for _, need := range d.Perm(len(s.Needs)) {
		if w := s.Needs[need].Weight; w <= room && (len(cargo) == 0 || d.IntN(4) > 0) {
			cargo = append(cargo, need)
			room -= w
		}
	}
	slices.Sort(cargo)
	return cargo
}

// somePlan is a random plan of at most so many orders.
func (d dice) somePlan(s api.TeSeason, most int) (p []api.TeOrder) {
	for _, day := range d.days(s, d.from(0, most)) {
		if cargo := d.cargo(s); len(cargo) > 0 {
			p = append(p, order(day, cargo...))
		}
	}
	return p
}

// someFailed are random failures of so many orders.
func (d dice) someFailed(n int) []int { return picked(d.IntN(1<<n)&d.IntN(1<<n), n) }

// someCame are random outcomes of at most so many orders, most of which came.
func (d dice) someCame(n int) []bool {
	came := make([]bool, d.from(0, n))
	for i := range came {
		came[i] = d.IntN(4) > 0
	}
	return came
}

// someCase is a random season, short or long, and a random plan.
func (d dice) someCase(i int) (api.TeSeason, []api.TeOrder) {
	s := d.someSeason([]int{4, 10, 20, 60}[i%4], 3, api.MaxTePossible)
	return s, d.somePlan(s, []int{3, 5, 8, 8}[i/4%4])
}
