package tender

import (
	"cmp"
	"iter"
	"slices"

	"nore/api"
)

// failures are which orders of a plan fail.
type failures [api.MaxTeOrders]bool

// with returns the failures with some more orders.
func (f failures) with(orders ...int) failures {
	for _, order := range orders {
		f[order] = true
	}
	return f
}

// indices returns the orders that fail, ascending.
func (f failures) indices() (l []int) {
	for order, is := range f {
		if is {
			l = append(l, order)
		}
	}
	return l
}

// failedOf returns the failures of outcomes, and how many of the last of these are failures one after the other.
func failedOf(came []bool) (f failures, row int) {
	for order, is := range came {
		if is {
			row = 0
			continue
		}
		f = f.with(order)
		row++
	}
	return f, row
}

// further yields the failures of outcomes, with any further ones that are possible with a number.
func (s *season) further(came []bool, number int) iter.Seq[failures] {
	return func(yield func(failures) bool) {
		var follow func(f failures, order, row, number int) bool
		follow = func(f failures, order, row, number int) bool {
			if order == len(s.orders) {
				return yield(f)
			}
			if !follow(f, order+1, 0, number) {
				return false
			}
			if number == 0 || row >= s.Row {
				return true
			}
			return follow(f.with(order), order+1, row+1, number-1)
		}
		f, row := failedOf(came)
		follow(f, len(came), row, number)
	}
}

// breach is how a plan breaks: with which failures, on which day, and by which need.
type breach struct {
	failed    []int
	day, need int
}

func (b breach) byDay(other breach) int { return cmp.Compare(b.day, other.day) }

func (b breach) byNeed(other breach) int { return cmp.Compare(b.need, other.need) }

func (b breach) byNumber(other breach) int { return cmp.Compare(len(b.failed), len(other.failed)) }

func (b breach) byOrders(other breach) int { return slices.Compare(b.failed, other.failed) }

// compare compares how a plan breaks: what breaks it on the least day comes first; of several what does by the least need, with the fewest failures, with the first ones.
func compare(a, b breach) int {
	for _, by := range [...]func(a, b breach) int{breach.byDay, breach.byNeed, breach.byNumber, breach.byOrders} {
		if c := by(a, b); c != 0 {
			return c
		}
	}
	return 0
}

// breach returns how the plan breaks with some failures, and whether it does.
func (s *season) breach(f failures) (b breach, breaks bool) {
	for day, l := range s.mornings(f) {
		if need := slices.Index(l[:len(s.Needs)], 0); need >= 0 {
			return breach{failed: f.indices(), day: day, need: need}, true
		}
	}
	return breach{}, false
}

// breaches yields how the plan breaks behind outcomes, with all further failures that are possible with a number.
func (s *season) breaches(came []bool, number int) iter.Seq[breach] {
	return func(yield func(breach) bool) {
		for f := range s.further(came, number) {
			if b, breaks := s.breach(f); breaks && !yield(b) {
				return
			}
		}
	}
}

// holds reports whether the plan still holds behind outcomes, with a number.
func (s *season) holds(came []bool, number int) bool {
	for range s.breaches(came, number) {
		return false
	}
	return true
}

// bears returns the greatest number with which the plan still holds behind outcomes, -1 if there is none.
func (s *season) bears(came []bool) int {
	return greatest(len(s.orders)-len(came), func(number int) bool { return s.holds(came, number) })
}

// greatest returns the greatest number up to hi that does, -1 if 0 does not. Each number below one that does has to do as well.
func greatest[N ~int](hi N, does func(N) bool) N {
	n := N(0)
	for n <= hi && does(n) {
		n++
	}
	return n - 1
}
