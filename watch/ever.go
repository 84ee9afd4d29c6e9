package watch

import (
	"iter"
	"slices"
)

// ever is how many rows can follow where a rota can go on for ever.
const ever = -1

// following returns how many rows can follow in a state at most, or ever.
func (c *crew) following(s state) int {
	if rows, known := c.rows[s]; known {
		return rows
	}
	// If the state is met again before it is known how many rows can follow, it leads back to itself.
	c.rows[s] = ever
	most := 0
	for _, next := range c.able(s) {
		rows := c.following(next)
		if rows == ever {
			return ever
		}
		most = max(most, rows+1)
	}
	c.rows[s] = most
	return most
}

// canDo reports whether some rota can go on for ever.
func (c *crew) canDo() bool { return c.following(state{}) == ever }

// lasting yields the groups behind which a rota can go on for ever, in order, and the state behind each.
func (c *crew) lasting(s state) iter.Seq2[[]int, state] {
	return func(yield func([]int, state) bool) {
		for group, next := range c.able(s) {
			if c.following(next) == ever && !yield(group, next) {
				return
			}
		}
	}
}

// endless returns the first groups that last, row by row, until all is as it was before a row, this row, and whether a rota can go on for ever at all.
func (c *crew) endless() (rota [][]int, from int, ok bool) {
	met := map[state]int{}
	s := state{}
rows:
	for {
		if from, again := met[s]; again {
			return rota, from, true
		}
		met[s] = len(rota)
		for group, next := range c.lasting(s) {
			rota = append(rota, slices.Clone(group))
			s = next
			continue rows // so that states that lead nowhere are never entered
		}
		return nil, 0, false
	}
}
