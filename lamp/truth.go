package lamp

import (
	"iter"
	"slices"

	"nore/api"
)

// truth is an api.LpTruth, with an array for as many runs as there can be; those that there are not have the speed 0.
type truth struct {
	start  int
	speeds [api.MaxLpWindings + 1]int
}

// truthOf returns a truth that can be one of the case.
func truthOf(x api.LpTruth) truth {
	t := truth{start: x.Start}
	copy(t.speeds[:], x.Speeds)
	return t
}

// told returns a truth with so many runs.
func (t truth) told(runs int) api.LpTruth {
	return api.LpTruth{Start: t.start, Speeds: slices.Clone(t.speeds[:runs])}
}

// truths yields all truths of the case, the lower Start first, of the same Start by their Speeds, number by number.
func (v *view) truths() iter.Seq[truth] {
	return func(yield func(truth) bool) {
		var t truth
		var choose func(run int) bool
		choose = func(run int) bool {
			if run == v.runs() {
				return yield(t)
			}
			for speed := range numbers(v.Lamp.Speed) {
				t.speeds[run] = speed
				if !choose(run + 1) {
					return false
				}
			}
			return true
		}
		for start := range numbers(v.Lamp.Start) {
			t.start = start
			if !choose(0) {
				return
			}
		}
	}
}

// agreeing yields the truths that agree with all sights, in the order of truths, and how the light is seen in each.
func (v *view) agreeing() iter.Seq2[truth, show] {
	return func(yield func(truth, show) bool) {
	truths:
		for t := range v.truths() {
			s := v.shown(t)
			for _, x := range v.Sights {
				if !isTrue(x, s) {
					continue truths
				}
			}
			if !yield(t, s) {
				return
			}
		}
	}
}

// untrue yields all truths, and of each the sights that are not true in it.
func (v *view) untrue() iter.Seq2[truth, []int] {
	return func(yield func(truth, []int) bool) {
		for t := range v.truths() {
			s := v.shown(t)
			var wrong []int
			for i, x := range v.Sights {
				if !isTrue(x, s) {
					wrong = append(wrong, i)
				}
			}
			if !yield(t, wrong) {
				return
			}
		}
	}
}

// isTrue reports whether a sight is true of how a light is seen.
func isTrue(x api.LpSight, s show) bool { return x.Lit == (s[x.Second] == lit) }

// least returns the first truth with the least of what is told of each, that, and whether there is a truth.
func least[T any](of iter.Seq2[truth, T], compare func(a, b T) int) (first truth, what T, some bool) {
	for t, x := range of {
		if !some || compare(x, what) < 0 {
			first, what, some = t, x, true
		}
	}
	return first, what, some
}
