package swing

import (
	"slices"

	"nore/api"
)

const (
	side = api.MaxSgWide + 1 // places along a side of the widest box
	word = 64                // bits
)

// set is some places of the box of the anchor: a bit of each one, by how many places of the box come before it.
type set [(side*side + word - 1) / word]uint64

func (s *set) add(n int) { s[n/word] |= 1 << (n % word) }

func (s *set) has(n int) bool { return s[n/word]>>(n%word)&1 == 1 }

// keep leaves just the places that another set has too.
func (s *set) keep(other set) {
	for i := range s {
		s[i] &= other[i]
	}
}

// everywhere returns all places of the box.
func (v *view) everywhere() set {
	var all set
	for n := range places(v.Anchor) {
		all.add(n)
	}
	return all
}

// common returns the places that all sets have: if there is no set, all of the box.
func (v *view) common(sets []set) set {
	left := v.everywhere()
	each(sets, left.keep)
	return left
}

// each hands all elements to a function.
func each[T any](l []T, take func(T)) {
	for _, x := range l {
		take(x)
	}
}

// drags returns the looks by which she has dragged since the one before in this list, and since the first look, by the set of each look.
func (v *view) drags(sets []set) []int {
	var drags []int
	from := 0
	cut := func(at int) {
		drags = append(drags, at)
		from = at
	}
	for i := range sets {
		if v.common(sets[from:i+1]) == (set{}) {
			cut(i)
		}
	}
	return drags
}

// fewestWrong returns the first list of the fewest looks without whose sets the others have a place in common.
func (v *view) fewestWrong(sets []set) []int {
	var best []int
	for i := range sets { // without all of them every place of the box is left
		best = append(best, i)
	}
lists:
	for bits := range 1 << len(sets) {
		var wrong []int
		var right []set
		for i, s := range sets {
			if bits>>i&1 == 0 {
				right = append(right, s)
				continue
			}
			wrong = append(wrong, i)
			if len(wrong) > len(best) {
				continue lists
			}
		}
		if v.common(right) != (set{}) && isBefore(wrong, best) {
			best = wrong
		}
	}
	return best
}

// isBefore reports whether a list is shorter than another one, or as long and, number by number, first.
func isBefore(a, b []int) bool {
	if len(a) != len(b) {
		return len(a) < len(b)
	}
	return slices.Compare(a, b) < 0
}
