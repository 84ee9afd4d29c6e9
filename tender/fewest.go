package tender

import (
	"iter"
	"slices"

	"nore/api"
)

// parts yields all lists of some elements of a list, each behind the list that it begins with, and otherwise in order.
func parts(l []int) iter.Seq[[]int] {
	return func(yield func([]int) bool) {
		var extend func(part, rest []int) bool
		extend = func(part, rest []int) bool {
			if !yield(part) {
				return false
			}
			for i, n := range rest {
				// The limit makes append copy, so that no list is in the memory of another one.
				if !extend(append(part[:len(part):len(part)], n), rest[i+1:]) {
					return false
				}
			}
			return true
		}
		extend(nil, l)
	}
}

// needs returns the indices of all needs.
func (s *season) needs() (l []int) {
	for need := range s.Needs {
		l = append(l, need)
	}
	return l
}

// fullCargos returns all full cargos, in order.
func (s *season) fullCargos() (full [][]int) {
	needs := s.needs()
cargos:
	for cargo := range parts(needs) {
		room := s.Load - weight(s.Needs, cargo)
		if len(cargo) == 0 || room < 0 {
			continue
		}
		for _, need := range needs {
			if !slices.Contains(cargo, need) && s.Needs[need].Weight <= room {
				continue cargos
			}
		}
		full = append(full, cargo)
	}
	return full
}

// plans yields all plans with an order on each of some days that has one of some cargos, by their cargos in order.
func plans(days []int, cargos [][]int) iter.Seq[[]api.TeOrder] {
	return func(yield func([]api.TeOrder) bool) {
		var load func(p []api.TeOrder) bool
		load = func(p []api.TeOrder) bool {
			if len(p) == len(days) {
				return yield(p)
			}
			for _, cargo := range cargos {
				if !load(append(p[:len(p):len(p)], api.TeOrder{Day: days[len(p)], Cargo: cargo})) {
					return false
				}
			}
			return true
		}
		load(nil)
	}
}

// countEarly counts for each need with how many possible failures it runs out first, even though each order on some days brings everything.
func (s *season) countEarly(early map[int]int, days []int) {
	clear(early)
	var p []api.TeOrder
	for _, day := range days {
		p = append(p, api.TeOrder{Day: day, Cargo: s.needs()})
	}
	for b := range s.with(p).breaches(nil, s.Fail) {
		early[b.need]++
	}
}

// fewest returns the first plan of the fewest orders on some days alone that holds, each order with a full cargo, and whether there is one. A cargo that is not full does no better than a full one.
func (s *season) fewest(days []int) (p []api.TeOrder, ok bool) {
	cargos := s.fullCargos()
	early := map[int]int{}
	for number := range len(days) + 1 {
		for some := range parts(days) {
			if len(some) != number {
				continue
			}
			if s.countEarly(early, some); len(early) > 0 {
				continue // whatever the cargos are
			}
			for p := range plans(some, cargos) {
				if s.with(p).holds(nil, s.Fail) {
					return copied(p), true
				}
			}
		}
	}
	return nil, false
}

// copied returns a plan whose orders share no cargo.
func copied(p []api.TeOrder) []api.TeOrder {
	p = slices.Clone(p)
	for i := range p {
		p[i].Cargo = slices.Clone(p[i].Cargo)
	}
	return p
}

// must returns the possible days without which no plan holds.
func (s *season) must() (l []int) {
	for i, day := range s.Possible {
		if _, ok := s.fewest(slices.Concat(s.Possible[:i], s.Possible[i+1:])); !ok {
			l = append(l, day)
		}
	}
	return l
}
