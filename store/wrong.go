package store

import (
	"cmp"
	"iter"
	"slices"

	"nore/api"
)

// set is some of the counts.
type set [api.MaxSrCounts]bool

// indices returns the counts of a set, ascending.
func (s set) indices() (l []int) {
	for i, is := range s {
		if is {
			l = append(l, i)
		}
	}
	return l
}

// truths yields all truths that can be, whatever was counted, by use.
func (k *stock) truths() iter.Seq[api.SrTruth] {
	return func(yield func(api.SrTruth) bool) {
		for t := range k.uses() {
			for ; t.First <= k.First.Hi; t.First++ {
				if !yield(t) {
					return
				}
			}
		}
	}
}

// fewestWrong returns the first list of the fewest counts of the kind without which it has a truth.
func (k *stock) fewestWrong() []int {
	sets := map[set]bool{}
	fewest := len(k.counts)
truths:
	for t := range k.truths() {
		m, _ := k.run(t, k.end())
		var wrong set
		size := 0
		for _, c := range k.counts {
			if !m.areBelow(c) && !m.areAbove(c) {
				continue
			}
			if size++; size > fewest {
				continue truths
			}
			wrong[c.index] = true
		}
		sets[wrong] = true
		if fewest = size; fewest == 0 {
			break
		}
	}
	return firstOf(sets)
}

// firstOf returns the first list of the smallest of some sets.
func firstOf(sets map[set]bool) []int {
	var lists [][]int
	for s := range sets {
		lists = append(lists, s.indices())
	}
	return slices.MinFunc(lists, func(a, b []int) int {
		return cmp.Or(cmp.Compare(len(a), len(b)), slices.Compare(a, b))
	})
}
