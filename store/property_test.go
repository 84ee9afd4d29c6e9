package store_test

import (
	"slices"
	"testing"

	"nore/api"
	"nore/store"
)

// P9, P8.8: in any truth, if counts tell what is true, there is an amount of the range of Level in each morning, and the kind runs short on none of the first days that Lasts says.
func TestEveryTruth(t *testing.T) {
	d := newDice(4)
	short := 0
	for i := range 1500 {
		s := d.someStores([]int{2, 5, 12, 30}[i%4])
		truths := d.someTruths(s)
		l := d.trueCounts(s, truths, d.IntN(9))
		for kind, x := range truths {
			lasts, e := store.Lasts(s, l, kind)
			levels, day, g := store.Mornings(s, kind, x, len(s.Men))
			if e != api.OK || g != api.OK || day < lasts {
				t.Fatalf("%v, %v: Lasts of %d = %d, %d, but in the truth %v it runs short on %d", s, l, kind, lasts, e, x, day)
			}
			if day < len(s.Men) {
				short++
			}
			for day, level := range levels {
				if r, e := store.Level(s, l, kind, day); e != api.OK || level < r.Lo || level > r.Hi {
					t.Fatalf("%v, %v: Level of %d on %d = %v, %d, but in the truth %v there are %d", s, l, kind, day, r, e, x, level)
				}
			}
		}
	}
	if short < 200 {
		t.Errorf("so often a kind ran short: %d", short)
	}
}

// P8.8, R10: both ends of Level are reached in truths, as Mornings tells them.
func TestEndsAreReached(t *testing.T) {
	d := newDice(5)
	wide := 0
	for i := range 400 {
		s, l := d.someCase(i)
		kind, day := d.IntN(len(s.Kinds)), d.from(0, len(s.Men))
		truths := truthsOf(s, l, kind)
		x, e := store.Level(s, l, kind, day)
		if e == api.ErrDown && len(truths) == 0 {
			continue
		}
		for _, end := range []int{x.Lo, x.Hi} {
			if !slices.ContainsFunc(truths, func(x api.SrTruth) bool {
				levels, _, _ := store.Mornings(s, kind, x, len(s.Men))
				return levels[day] == end
			}) {
				t.Fatalf("%v, %v: Level of %d on %d = %v, %d, but in no truth there are %d", s, l, kind, day, x, e, end)
			}
		}
		if x.Lo < x.Hi {
			wide++
		}
	}
	if wide < 100 {
		t.Errorf("so often Level was more than one number: %d", wide)
	}
}

// P9, P8.9: in the truth of Short the kind runs short on its day, which is the number of days of Lasts; in no truth it does earlier.
func TestLastOfThem(t *testing.T) {
	d := newDice(6)
	short := 0
	for i := range 1000 {
		s, l := d.someCase(i)
		kind := d.IntN(len(s.Kinds))
		x, day, e := store.Short(s, l, kind)
		lasts, g := store.Lasts(s, l, kind)
		if e == api.ErrNone {
			if lasts != len(s.Men) || g != api.OK {
				t.Fatalf("%v, %v: Short of %d has nothing to tell, but Lasts = %d, %d", s, l, kind, lasts, g)
			}
			continue
		}
		if e != g {
			t.Fatalf("%v, %v: Short of %d has the error %d, Lasts %d", s, l, kind, e, g)
		}
		if e != api.OK {
			continue
		}
		short++
		_, on, f := store.Mornings(s, kind, x, len(s.Men))
		if f != api.OK || on != day || day != lasts || !agrees(s, l, kind, x) {
			t.Fatalf("%v, %v: Short of %d = %v, %d; Lasts = %d, and it runs short on %d", s, l, kind, x, day, lasts, on)
		}
		for _, y := range truthsOf(s, l, kind) {
			if on := pastOf(s, kind, y, len(s.Men)).short; on < day {
				t.Fatalf("%v, %v: Short of %d = %v, %d, but in %v it runs short on %d", s, l, kind, x, day, y, on)
			}
		}
	}
	if short < 300 {
		t.Errorf("so often a kind ran short: %d", short)
	}
}

// lastsWith reports whether Mornings tells that the kind lasts in all of these truths, if it is rationed from a day on.
func lastsWith(s api.SrStores, truths []api.SrTruth, kind, from int) bool {
	for _, x := range truths {
		if _, short, e := store.Mornings(s, kind, x, from); e != api.OK || short < len(s.Men) {
			return false
		}
	}
	return true
}

// P9, P8.10: with the amount of Cargo the kind lasts to the end in any truth; with any smaller one it does not in some truth.
func TestLeastCargo(t *testing.T) {
	d := newDice(7)
	met, none := 0, 0
	for i := range 1000 {
		s, l := d.someCase(i)
		kind := d.IntN(len(s.Kinds))
		truths := truthsOf(s, l, kind)
		day := d.IntN(len(s.Men))
		if lasts := lastsOf(s, truths, kind, len(s.Men)); lasts < len(s.Men) && i%3 > 0 {
			day = d.from(0, lasts)
		}
		n, e := store.Cargo(s, l, kind, day)
		if e == api.ErrDown {
			if len(truths) > 0 {
				none++
				if lastsWith(withCargo(s, cargo(day, kind, api.MaxSrStore)), truths, kind, len(s.Men)) {
					t.Fatalf("%v, %v: Cargo of %d on %d has the error %d, but with %d it lasts", s, l, kind, day, e, api.MaxSrStore)
				}
			}
			continue
		}
		if e != api.OK || !lastsWith(withCargo(s, cargo(day, kind, n)), truths, kind, len(s.Men)) {
			t.Fatalf("%v, %v: Cargo of %d on %d = %d, %d, but with it it does not last", s, l, kind, day, n, e)
		}
		for less := range n {
			if lastsWith(withCargo(s, cargo(day, kind, less)), truths, kind, len(s.Men)) {
				t.Fatalf("%v, %v: Cargo of %d on %d = %d, %d, but %d do", s, l, kind, day, n, e, less)
			}
		}
		if n > 0 {
			met++
		}
	}
	if met < 100 || none < 60 {
		t.Errorf("so often a cargo was needed: %d, none was enough: %d", met, none)
	}
}

// P9, P8.11: if the kind is rationed from the day of Ration on, it lasts to the end in any truth; if it is from any later day on, it does not in some truth.
func TestLastRations(t *testing.T) {
	d := newDice(8)
	met, none := 0, 0
	for i := range 1500 {
		s, l := d.someCase(i)
		kind, end := d.IntN(len(s.Kinds)), len(s.Men)
		truths := truthsOf(s, l, kind)
		from, e := store.Ration(s, l, kind)
		if e == api.ErrDown {
			if len(truths) > 0 {
				none++
				for from := range end + 1 {
					if lastsWith(s, truths, kind, from) {
						t.Fatalf("%v, %v: Ration of %d has the error %d, but from %d on it lasts", s, l, kind, e, from)
					}
				}
			}
			continue
		}
		if e != api.OK || !lastsWith(s, truths, kind, from) {
			t.Fatalf("%v, %v: Ration of %d = %d, %d, but it does not last", s, l, kind, from, e)
		}
		for later := from + 1; later <= end; later++ {
			if lastsWith(s, truths, kind, later) {
				t.Fatalf("%v, %v: Ration of %d = %d, %d, but from %d on it lasts", s, l, kind, from, e, later)
			}
		}
		if from < end {
			met++
		}
	}
	if met < 60 || none < 60 {
		t.Errorf("so often rations were needed: %d, they were not enough: %d", met, none)
	}
}

// P4, P8.12: without the counts of Wrong each kind has a truth; without any fewer ones some kind has none. If all counts are true, it is no more than those that were told wrong.
func TestFewestWrong(t *testing.T) {
	d := newDice(9)
	var lengths [9]int
	for i := range 600 {
		s := d.someStores(3 + i%6)
		l := d.trueCounts(s, d.someTruths(s), d.from(1, 8))
		told := 0
		for range d.IntN(4) {
			k := d.IntN(len(l))
			lo := d.from(0, 40)
			l[k].Amount = span(lo, lo+d.IntN(4))
			told |= 1 << k
		}
		wrong, e := store.Wrong(s, l)
		if e != api.OK || !allTrue(s, without(l, wrong)) {
			t.Fatalf("Wrong of %v, %v = %v, %d, but without them there is no truth", s, l, wrong, e)
		}
		if n := len(picked(told, 8)); len(wrong) > n {
			t.Fatalf("Wrong of %v, %v = %v, but just %d were told wrong", s, l, wrong, n)
		}
		for set := range 1 << len(l) {
			if w := picked(set, len(l)); len(w) < len(wrong) && allTrue(s, without(l, w)) {
				t.Fatalf("Wrong of %v, %v = %v, but %v are enough", s, l, wrong, w)
			}
		}
		lengths[len(wrong)]++
	}
	if lengths[0] < 60 || lengths[1] < 60 || lengths[2] < 30 || lengths[3] < 8 {
		t.Errorf("so often so many were wrong: %v", lengths)
	}
}

// P8.12, R6: counts that are wrong together with any others are found in whatever place they are.
func TestWrongInAnyPlace(t *testing.T) {
	s := exampleS()
	for set := range 1 << api.MaxSrCounts {
		l := slices.Repeat(counts(count(2, water, 12, 28)), api.MaxSrCounts)
		for _, i := range picked(set, api.MaxSrCounts) {
			l[i] = count(0, i%2, 100, 600)
		}
		expectWrong(t, "set", s, l, picked(set, api.MaxSrCounts), api.OK)
	}
}

// P8.13: with a further count no range of Level is wider, no kind lasts for fewer days, needs a greater cargo, or has to be rationed earlier.
func TestCountsTighten(t *testing.T) {
	d := newDice(10)
	tighter, longer, smaller, later := 0, 0, 0, 0
	for i := range 2500 {
		s, l := d.someCase(i)
		l = l[:min(len(l), 7)]
		more := append(slices.Clone(l), d.trueCounts(s, d.someTruths(s), 1)...)
		for kind := range s.Kinds {
			lasts, e := store.Lasts(s, more, kind)
			if e == api.ErrDown {
				continue
			}
			before, e := store.Lasts(s, l, kind)
			if e != api.OK || lasts < before {
				t.Fatalf("%v, %v: Lasts of %d = %d; without the last count %d, %d", s, more, kind, lasts, before, e)
			}
			if lasts > before {
				longer++
			}
			for day := range len(s.Men) + 1 {
				x, _ := store.Level(s, more, kind, day)
				y, _ := store.Level(s, l, kind, day)
				if x.Lo < y.Lo || x.Hi > y.Hi {
					t.Fatalf("%v, %v: Level of %d on %d = %v; without the last count %v", s, more, kind, day, x, y)
				}
				if x != y {
					tighter++
				}
			}
			for day := range s.Men {
				n, e := store.Cargo(s, more, kind, day)
				m, g := store.Cargo(s, l, kind, day)
				if g == api.OK && (e != api.OK || n > m) {
					t.Fatalf("%v, %v: Cargo of %d on %d = %d, %d; without the last count %d, %d", s, more, kind, day, n, e, m, g)
				}
				if g == api.OK && n < m {
					smaller++
				}
			}
			n, e := store.Ration(s, more, kind)
			m, g := store.Ration(s, l, kind)
			if g == api.OK && (e != api.OK || n < m) {
				t.Fatalf("%v, %v: Ration of %d = %d, %d; without the last count %d, %d", s, more, kind, n, e, m, g)
			}
			if g == api.OK && n > m {
				later++
			}
		}
	}
	if tighter < 500 || longer < 50 || smaller < 50 || later < 20 {
		t.Errorf("so often a count made a range tighter: %d, the days more: %d, a cargo smaller: %d, rations later: %d", tighter, longer, smaller, later)
	}
}

// P8.14: what there was at first, and the cargos, less what was left in the tender and what was used, is what there is at the end; all that is used is as it is defined, but on days on which the kind runs short.
func TestConserved(t *testing.T) {
	d := newDice(11)
	for i := range 2000 {
		s, _ := d.someCase(i)
		for kind, x := range d.someTruths(s) {
			from := d.from(0, len(s.Men))
			levels, short, e := store.Mornings(s, kind, x, from)
			p := pastOf(s, kind, x, from)
			if e != api.OK || x.First+p.came-p.left-p.used != levels[len(s.Men)] {
				t.Fatalf("%v, %d, %v from %d: Mornings = %v, %d, %d; %d came, of which %d were left, and %d were used", s, kind, x, from, levels, short, e, p.came, p.left, p.used)
			}
			need := 0
			for day, men := range s.Men {
				need += needOf(s, kind, x, men, day >= from)
			}
			if need < p.used || (need == p.used) != (short == len(s.Men)) {
				t.Fatalf("%v, %d, %v from %d: it runs short on %d, but of %d that are needed %d are used", s, kind, x, from, short, need, p.used)
			}
		}
	}
}

// P8.14: more at first, or less use, never leaves less in a morning, nor does it run short earlier; nor do rations.
func TestMoreLeavesMore(t *testing.T) {
	d := newDice(12)
	different := 0
	for i := range 2000 {
		s, _ := d.someCase(i)
		kind, from := d.IntN(len(s.Kinds)), d.from(0, len(s.Men))
		x, y := d.someTruths(s)[kind], d.someTruths(s)[kind]
		low := truth(min(x.First, y.First), max(x.Man, y.Man), max(x.Ship, y.Ship))
		high := truth(max(x.First, y.First), min(x.Man, y.Man), min(x.Ship, y.Ship))
		less, early, e := store.Mornings(s, kind, low, from)
		more, late, g := store.Mornings(s, kind, high, d.from(0, from))
		if e != api.OK || g != api.OK || early > late {
			t.Fatalf("%v, %d: %v runs short on %d, %d, %v on %d, %d", s, kind, low, early, e, high, late, g)
		}
		for day := range less {
			if less[day] > more[day] {
				t.Fatalf("%v, %d: %v leaves %v, %v just %v", s, kind, low, less, high, more)
			}
		}
		if !slices.Equal(less, more) {
			different++
		}
	}
	if different < 1000 {
		t.Errorf("so often something was different: %d", different)
	}
}
