package watch

import (
	"iter"
	"slices"

	"nore/api"
)

// tiredness is how many rows a man has stood in a row, or, if he has stood none, how many he still has to rest.
type tiredness struct{ stood, rest int }

// state is all that decides about the rows behind a rota: the slot of the next one, and how tired each man is.
type state struct {
	slot int
	men  [api.MaxWaMen]tiredness
}

// fault is something that can be wrong with a row, and the function that finds it, and the man, if one is named.
type fault struct {
	why   int
	finds func(s state, group []int) (man int, is bool)
}

// crew is a case that is looked at: who of its men can be put into rows, ascending, what can be wrong with a row, and how many rows can follow in each state that has been looked at.
type crew struct {
	api.WaCase
	who    []int
	faults []fault
	rows   map[state]int
}

// newCrew returns the crew of all men of a case.
func newCrew(x api.WaCase) *crew {
	c := &crew{WaCase: x, rows: map[state]int{}}
	for man := range len(x.Men) {
		c.who = append(c.who, man)
	}
	c.faults = []fault{
		{api.WaMen, func(s state, group []int) (int, bool) { return 0, len(group) != c.Slots[s.slot].Men }},
		{api.WaLeast, func(s state, group []int) (int, bool) { return 0, !slices.ContainsFunc(group, c.knows(s)) }},
		{api.WaNot, ofMan(func(s state, man int) bool { return slices.Contains(c.Men[man].Not, s.slot) })},
		{api.WaTired, ofMan(func(s state, man int) bool { return s.men[man].stood >= c.Run })},
		{api.WaRest, ofMan(func(s state, man int) bool { return s.men[man].rest > 0 })},
	}
	return c
}

// ofMan returns the function that finds the first man of a group of whom something is so.
func ofMan(is func(s state, man int) bool) func(state, []int) (int, bool) {
	return func(s state, group []int) (int, bool) {
		for _, man := range group {
			if is(s, man) {
				return man, true
			}
		}
		return 0, false
	}
}

// knows returns the function that reports whether a man knows enough for the next slot.
func (c *crew) knows(s state) func(man int) bool {
	return func(man int) bool { return c.Men[man].Kind >= c.Slots[s.slot].Least }
}

// only returns the crew in which just these men can be put into rows.
func (c *crew) only(who []int) *crew {
	few := newCrew(c.WaCase)
	few.who = slices.Clone(who)
	return few
}

// without returns the crew in which one man less can be put into rows.
func (c *crew) without(man int) *crew {
	return c.only(slices.DeleteFunc(slices.Clone(c.who), func(m int) bool { return m == man }))
}

// why returns why a group would be a bad row, and the man; WaGood and 0 if it can stand.
func (c *crew) why(s state, group []int) (why, man int) {
	for _, f := range c.faults {
		if man, is := f.finds(s, group); is {
			return f.why, man
		}
	}
	return api.WaGood, 0
}

// behind returns the state behind a group that can stand.
func (c *crew) behind(s state, group []int) state {
	for man := range c.Men {
		t := &s.men[man]
		switch {
		case slices.Contains(group, man):
			t.stood++
		case t.stood > 0:
			*t = tiredness{rest: c.Rest}
			fallthrough // for this row he rests already
		case t.rest > 0:
			t.rest--
		}
	}
	s.slot = (s.slot + 1) % len(c.Slots)
	return s
}

// walk returns the state behind a rota, and -1, WaGood and 0 if it is good; otherwise the first row that is bad, why it is, and the man.
func (c *crew) walk(rota [][]int) (s state, at, why, man int) {
	for row := range len(rota) {
		if why, man = c.why(s, rota[row]); why != api.WaGood {
			return state{}, row, why, man
		}
		s = c.behind(s, rota[row])
	}
	return s, -1, api.WaGood, 0
}

// groups yields all groups of so many men, in order; the memory of each is used for the next one.
func (c *crew) groups(size int) iter.Seq[[]int] {
	return func(yield func([]int) bool) {
		var group []int
		var choose func(others []int) bool
		choose = func(others []int) bool {
			if len(group) == size {
				return yield(group)
			}
			for i, man := range others {
				group = append(group, man)
				if !choose(others[i+1:]) {
					return false
				}
				group = group[:len(group)-1]
			}
			return true
		}
		choose(c.who)
	}
}

// able yields the groups that can stand in a state, in order, and the state behind each.
func (c *crew) able(s state) iter.Seq2[[]int, state] {
	return c.ableOf(s, c.groups(c.Slots[s.slot].Men))
}

// ableOf yields those of some groups that can stand in a state, and the state behind each.
func (c *crew) ableOf(s state, groups iter.Seq[[]int]) iter.Seq2[[]int, state] {
	return func(yield func([]int, state) bool) {
		for group := range groups {
			if why, _ := c.why(s, group); why == api.WaGood && !yield(group, c.behind(s, group)) {
				return
			}
		}
	}
}

// kept returns groups that are yielded, each in memory of its own.
func kept(groups iter.Seq2[[]int, state]) (l [][]int) {
	for group := range groups {
		l = append(l, slices.Clone(group))
	}
	return l
}

// tried yields those of what is tried that do.
func tried[T any](all iter.Seq[T], does func(T) bool) iter.Seq[T] {
	return func(yield func(T) bool) {
		for x := range all {
			if does(x) && !yield(x) {
				return
			}
		}
	}
}
