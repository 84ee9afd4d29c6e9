package watch

import (
	"iter"
	"slices"
)

// place is a row of a rota, and the state before it.
type place struct {
	row int
	state
}

// filled returns the first good rota that has groups in the place of the empty rows of another one, and whether there is one.
func (c *crew) filled(rota [][]int) (good [][]int, ok bool) {
	good = make([][]int, len(rota))
	dead := map[place]bool{} // from there the rows that are left cannot be stood
	var fill func(p place) bool
	fill = func(p place) bool {
		if p.row == len(rota) {
			return true
		}
		if dead[p] {
			return false
		}
		for group, next := range c.choices(p.state, rota[p.row]) {
			good[p.row] = slices.Clone(group)
			if fill(place{p.row + 1, next}) {
				return true
			}
		}
		dead[p] = true
		return false
	}
	if !fill(place{}) {
		return nil, false
	}
	return good, true
}

// choices yields the groups that can stand in the place of a row, which is just its own one unless it is empty, and the state behind each.
func (c *crew) choices(s state, row []int) iter.Seq2[[]int, state] {
	if len(row) == 0 {
		return c.able(s)
	}
	return c.ableOf(s, slices.Values([][]int{row}))
}
