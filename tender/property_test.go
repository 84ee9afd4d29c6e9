package tender_test

import (
	"slices"
	"testing"

	"nore/api"
	"nore/tender"
)

// P8, P9.6: if Breaks returns ErrNone, nothing runs out with any possible failures; otherwise its failures are possible, the plan breaks with them on this day by this need, and with no possible failures before.
func TestWhateverFails(t *testing.T) {
	d := newDice(4)
	held, broke := 0, 0
	for i := range 1500 {
		s, p := d.someCase(i)
		all := possibleOf(s, len(p))
		failed, day, need, e := tender.Breaks(s, p)
		if e == api.ErrNone {
			held++
			day = s.Days
		} else {
			broke++
			on, by, g := tender.Out(s, p, failed)
			isPossible := slices.ContainsFunc(all, func(f []int) bool { return slices.Equal(f, failed) })
			if e != api.OK || g != api.OK || on != day || by != need || !isPossible {
				t.Fatalf("%v, %v: Breaks = %v, %d, %d, %d; Out = %d, %d, %d", s, p, failed, day, need, e, on, by, g)
			}
		}
		for _, f := range all {
			if on, by, g := tender.Out(s, p, f); g == api.OK && (on < day || on == day && by < need) {
				t.Fatalf("%v, %v: Breaks = %v, %d, %d, %d, but if %v fail, Out = %d, %d", s, p, failed, day, need, e, f, on, by)
			}
		}
	}
	if held < 300 || broke < 300 {
		t.Errorf("so often a plan held: %d, it broke: %d", held, broke)
	}
}

// P8, P9.7: what Fewest returns holds, with full cargos on possible days; no plan with fewer orders on possible days does, whatever its cargos are.
func TestNoFewer(t *testing.T) {
	d := newDice(5)
	met, none := 0, 0
	for i := range 500 {
		s := d.someHope([]int{6, 12, 20, 60}[i%4], 2+i%2, 4-i%2)
		p, e := tender.Fewest(s)
		fewer := api.MaxTePossible + 1
		if e == api.OK {
			fewer = len(p)
			if _, g := tender.Plan(s, p); g != api.OK || !holds(s, p) {
				t.Fatalf("%v: Fewest = %v, but it does not hold", s, p)
			}
			for _, o := range p {
				if !slices.Contains(s.Possible, o.Day) || !isFull(s, o.Cargo) {
					t.Fatalf("%v: Fewest = %v", s, p)
				}
			}
		} else if e != api.ErrDown {
			t.Fatalf("%v: Fewest has the error %d", s, e)
		}
		for _, q := range plansOf(s, s.Possible, anyCargo) {
			if len(q) < fewer && holds(s, q) {
				t.Fatalf("%v: Fewest = %v, %d, but %v holds", s, p, e, q)
			}
		}
		if e == api.OK && len(p) > 0 {
			met++
		} else if e != api.OK {
			none++
		}
	}
	if met < 120 || none < 100 {
		t.Errorf("so often orders were found: %d, none were enough: %d", met, none)
	}
}

// P8, P9.8: with any failures that are as many as Bears says nothing runs out; with one more, if there are as many orders, something does with some failures.
func TestWhatItBears(t *testing.T) {
	d := newDice(6)
	bore := 0
	for i := range 1500 {
		s, p := d.someCase(i)
		number, e := tender.Bears(s, p)
		if e != api.OK {
			if _, _, g := tender.Out(s, p, nil); e != api.ErrDown || g != api.OK {
				t.Fatalf("%v, %v: Bears has the error %d; without failures Out has the error %d", s, p, e, g)
			}
			continue
		}
		runs := func(number int) bool {
			return slices.ContainsFunc(possibleOf(withFail(s, number), len(p)), func(failed []int) bool {
				_, _, e := tender.Out(s, p, failed)
				return e == api.OK
			})
		}
		if runs(number) || number < len(p) && !runs(number+1) {
			t.Fatalf("%v, %v: Bears = %d", s, p, number)
		}
		if number > 0 && number < len(p) {
			bore++
		}
	}
	if bore < 100 {
		t.Errorf("so often some failures were borne, but not all: %d", bore)
	}
}

// P9.9: at first Still says what Bears does. It falls by at most one if the next order fails, as long as no more than Row fail one after the other; if it comes, it does not fall, but for the orders that are left.
func TestStillPromised(t *testing.T) {
	d := newDice(7)
	fell, stayed := 0, 0
	// A plan that does not still hold is as if Still were below 0.
	still := func(s api.TeSeason, p []api.TeOrder, came []bool) int {
		n, e := tender.Still(s, p, came)
		if e != api.OK {
			return -1
		}
		return n
	}
	for i := range 1500 {
		s, p := d.someCase(i)
		number, e := tender.Bears(s, p)
		if n, g := tender.Still(s, p, nil); n != number || g != e {
			t.Fatalf("%v, %v: Bears = %d, %d; at first Still = %d, %d", s, p, number, e, n, g)
		}
		var came []bool
		row := 0
		for len(came) < len(p) {
			before := still(s, p, came)
			comes := d.IntN(3) > 0
			came = append(came, comes)
			if row++; comes {
				row = 0
			}
			after := still(s, p, came)
			least := min(before, len(p)-len(came))
			if !comes {
				least = before - 1
			}
			if after < least && row <= s.Row || after > len(p)-len(came) || before < 0 && after >= 0 {
				t.Fatalf("%v, %v: behind %v Still = %d, before %d", s, p, came, after, before)
			}
			if !comes && after < before {
				fell++
			} else if !comes {
				stayed++
			}
		}
	}
	if fell < 200 || stayed < 200 {
		t.Errorf("so often Still fell: %d, it stayed: %d", fell, stayed)
	}
}

// P9.10: with any possible failures no need has fewer days left in a morning than Worst says, and with some it has as many; the plan holds just if Worst is above 0 for each need.
func TestTheWorst(t *testing.T) {
	d := newDice(8)
	held := 0
	for i := range 600 {
		s, p := d.someCase(i)
		worst, e := tender.Worst(s, p)
		if e != api.OK || len(worst) != len(s.Needs) {
			t.Fatalf("%v, %v: Worst = %v, %d", s, p, worst, e)
		}
		if holds(s, p) != (slices.Min(worst) > 0) {
			t.Fatalf("%v, %v: Worst = %v; it holds: %t", s, p, worst, holds(s, p))
		}
		if slices.Min(worst) > 0 {
			held++
		}
		reached := make([]bool, len(worst))
		for _, failed := range possibleOf(s, len(p)) {
			for day := range s.Days {
				left, e := tender.Left(s, p, failed, day)
				if e != api.OK {
					t.Fatalf("%v, %v: Left on %d if %v fail has the error %d", s, p, day, failed, e)
				}
				for need, n := range left {
					if n < worst[need] {
						t.Fatalf("%v, %v: Worst = %v; on %d if %v fail, Left = %v", s, p, worst, day, failed, left)
					}
					reached[need] = reached[need] || n == worst[need]
				}
			}
		}
		if slices.Contains(reached, false) {
			t.Fatalf("%v, %v: Worst = %v is not reached", s, p, worst)
		}
	}
	if held < 150 || held > 500 {
		t.Errorf("so often a plan held: %d", held)
	}
}

// P9.11: with one more need in a cargo that is not too heavy Worst is not less.
func TestMoreCargo(t *testing.T) {
	d := newDice(9)
	more := 0
	for i := range 3000 {
		s, p := d.someCase(i)
		if len(p) == 0 {
			continue
		}
		q := cloneOf(p)
		at, need := d.IntN(len(q)), d.IntN(len(s.Needs))
		if slices.Contains(q[at].Cargo, need) {
			continue
		}
		q[at].Cargo = append(q[at].Cargo, need)
		slices.Sort(q[at].Cargo)
		if weightOf(s, q[at].Cargo) > s.Load {
			expectError(t, "too heavy", s, q, api.ErrDown)
			continue
		}
		if compareWorst(t, s, p, q) {
			more++
		}
	}
	if more < 40 {
		t.Errorf("so often the worst was better: %d", more)
	}
}

// P9.11: with one more order Worst is not less, if Row is not below Fail.
func TestMoreOrders(t *testing.T) {
	d := newDice(10)
	more := 0
	for i := range 3000 {
		s, p := d.someCase(i)
		s.Row = d.from(max(1, s.Fail), api.MaxTeOrders)
		day, cargo := d.IntN(s.Days), d.cargo(s)
		if len(p) == api.MaxTeOrders || len(cargo) == 0 || isOrdered(p, day) {
			continue
		}
		q := append(slices.Clip(p), order(day, cargo...))
		slices.SortFunc(q, func(a, b api.TeOrder) int { return a.Day - b.Day })
		if compareWorst(t, s, p, q) {
			more++
		}
	}
	if more < 150 {
		t.Errorf("so often the worst was better: %d", more)
	}
}

// compareWorst tells if Worst of the second plan is less than that of the first one for some need, and reports whether it is more for some.
func compareWorst(t *testing.T, s api.TeSeason, p, q []api.TeOrder) bool {
	t.Helper()
	worst, e := tender.Worst(s, p)
	other, g := tender.Worst(s, q)
	if e != api.OK || g != api.OK {
		t.Fatalf("%v: Worst of %v = %v, %d; of %v %v, %d", s, p, worst, e, q, other, g)
	}
	for need, n := range worst {
		if other[need] < n {
			t.Fatalf("%v: Worst of %v = %v; of %v %v", s, p, worst, q, other)
		}
	}
	return !slices.Equal(worst, other)
}

// P9.12: a plan that holds, with orders on possible days, has an order on each day of Must.
func TestMust(t *testing.T) {
	d := newDice(11)
	days := 0
	for i := range 500 {
		s := d.someHope([]int{6, 12, 20, 60}[i%4], 2+i%2, 4-i%2)
		must, e := tender.Must(s)
		if _, g := tender.Fewest(s); e != g {
			t.Fatalf("%v: Must has the error %d, Fewest %d", s, e, g)
		}
		if e != api.OK {
			continue
		}
		days += len(must)
		for _, p := range plansOf(s, s.Possible, anyCargo) {
			if !holds(s, p) {
				continue
			}
			for _, day := range must {
				if !isOrdered(p, day) {
					t.Fatalf("%v: Must = %v, but %v holds", s, must, p)
				}
			}
		}
	}
	if days < 100 {
		t.Errorf("so many days were on Must: %d", days)
	}
}
