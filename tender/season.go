package tender

import (
	"iter"
	"slices"

	"nore/api"
)

// left are for how many days each need lasts in a morning; 0 where there is no need.
type left [api.MaxTeNeeds]int

// next returns what is left in the next morning if nothing comes.
func (l left) next() left {
	for i, days := range l {
		l[i] = max(0, days-1)
	}
	return l
}

// least returns the least days left of each need, in two mornings.
func (l left) least(other left) left {
	for i, days := range other {
		l[i] = min(l[i], days)
	}
	return l
}

// season is a season that is looked at with the orders of a plan.
type season struct {
	api.TeSeason
	orders []api.TeOrder
}

// with returns the season with the orders of another plan.
func (s *season) with(p []api.TeOrder) *season { return &season{s.TeSeason, p} }

// fulls returns the days left if all is brought.
func (s *season) fulls() (l left) {
	for i, n := range s.Needs {
		l[i] = n.Full
	}
	return l
}

// firsts returns the days left at first if nothing is brought.
func (s *season) firsts() (l left) {
	for i, n := range s.Needs {
		l[i] = n.First
	}
	return l
}

// mornings yields each day and the days left in its morning, with some failures.
func (s *season) mornings(f failures) iter.Seq2[int, left] {
	return func(yield func(int, left) bool) {
		l, fulls, order := s.firsts(), s.fulls(), 0
		for day := range s.Days {
			if day > 0 {
				l = l.next()
			}
			if order < len(s.orders) && s.orders[order].Day == day {
				if !f[order] {
					for _, need := range s.orders[order].Cargo {
						l[need] = fulls[need]
					}
				}
				order++
			}
			if !yield(day, l) {
				return
			}
		}
	}
}

// leftOn returns the days left in the morning of a day, with some failures.
func (s *season) leftOn(f failures, day int) left {
	for morning, l := range s.mornings(f) {
		if morning == day {
			return l
		}
	}
	return left{}
}

// worst returns the least days left of each need in a morning, with any possible failures.
func (s *season) worst() left {
	worst := s.fulls()
	for f := range s.further(nil, s.Fail) {
		for _, l := range s.mornings(f) {
			worst = worst.least(l)
		}
		if worst == (left{}) {
			break // nothing is less
		}
	}
	return worst
}

// listed returns the days left as a list of all needs.
func (s *season) listed(l left) []int { return slices.Clone(l[:len(s.Needs)]) }
