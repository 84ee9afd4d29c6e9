package chain

import "slices"

// fewest returns the first list of the fewest indices such that the elements will do if those with these indices are changed, and whether there is one. What willDo is handed is its own.
func fewest[T any](l []T, change func(T) []T, willDo func([]T) bool) ([]int, bool) {
	for n := range len(l) + 1 {
		if list, ok := firstOf(n, l, change, willDo); ok {
			return list, true
		}
	}
	return nil, false
}

// firstOf returns the first list of so many indices such that the elements will do if those with these indices are changed, and whether there is one.
func firstOf[T any](n int, l []T, change func(T) []T, willDo func([]T) bool) ([]int, bool) {
	var list []int
	var try func(from int) bool
	try = func(from int) bool {
		if len(list) == n {
			return willDo(changed(l, list, change))
		}
		for i := from; i < len(l); i++ {
			list = append(list, i)
			if try(i + 1) {
				return true
			}
			list = list[:len(list)-1]
		}
		return false
	}
	ok := try(0)
	return list, ok
}

// changed returns what the elements are if those with some indices are changed: each becomes any number of elements.
func changed[T any](l []T, indices []int, change func(T) []T) []T {
	var all []T
	for i, x := range l {
		if slices.Contains(indices, i) {
			all = append(all, change(x)...)
		} else {
			all = append(all, x)
		}
	}
	return all
}
