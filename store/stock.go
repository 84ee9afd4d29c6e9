package store

import (
	"cmp"
	"iter"
	"slices"
	"sort"

	"nore/api"
)

// mornings are how much there is in the morning of each day, and of the end.
type mornings [api.MaxSrDays + 1]int

// areBelow reports whether there is less than was counted.
func (m mornings) areBelow(c count) bool { return m[c.Day] < c.Amount.Lo }

// areAbove reports whether there is more than was counted.
func (m mornings) areAbove(c count) bool { return m[c.Day] > c.Amount.Hi }

// count is a count, and its index among those of all kinds.
type count struct {
	api.SrCount
	index int
}

// stock is a kind of stores that is looked at: how much of it comes on each day, and how much was counted.
type stock struct {
	api.SrStores
	api.SrKind
	comes  [api.MaxSrDays]int
	counts []count
}

func newStock(s api.SrStores, l []api.SrCount, kind int) *stock {
	k := &stock{SrStores: s, SrKind: s.Kinds[kind]}
	for _, c := range s.Cargos {
		if c.Kind == kind {
			k.comes[c.Day] += c.Amount
		}
	}
	for i, c := range l {
		if c.Kind == kind {
			k.counts = append(k.counts, count{SrCount: c, index: i})
		}
	}
	return k
}

// with returns the stock for which so much more comes on a day.
func (k *stock) with(more, day int) *stock {
	other := *k
	other.comes[day] += more
	return &other
}

// end returns the day behind the last one.
func (k *stock) end() int { return len(k.Men) }

// can reports whether the numbers of a truth are from the spans.
func (k *stock) can(t api.SrTruth) bool {
	return within(k.First.Lo, k.First.Hi, t.First) && within(k.Man.Lo, k.Man.Hi, t.Man) && within(k.Ship.Lo, k.Ship.Hi, t.Ship)
}

// run returns what there is in each morning in a truth, if the kind is rationed from a day on, and the first day on which it runs short.
func (k *stock) run(t api.SrTruth, from int) (m mornings, short int) {
	short = k.end()
	m[0] = t.First
	for day := range k.end() {
		there, use := k.loaded(m[day], day), k.use(t, day, from)
		if there < use {
			short = min(short, day)
		}
		m[day+1] = max(0, there-use)
	}
	return m, short
}

// loaded returns what there is on a day when its cargo is on board.
func (k *stock) loaded(before, day int) int {
	return max(before, min(before+k.comes[day], k.Room))
}

// use returns what is used on a day in a truth, if the kind is rationed from a day on.
func (k *stock) use(t api.SrTruth, day, from int) int {
	men := k.Men[day] * t.Man
	if day >= from {
		men = (men*k.Ration + api.All - 1) / api.All
	}
	return men + t.Ship
}

// morning returns what there is in the morning of a day in a truth, without rations.
func (k *stock) morning(t api.SrTruth, day int) int {
	m, _ := k.run(t, k.end())
	return m[day]
}

// uses yields, for each use of men and ship, the truth with the least First that can be, whatever was counted.
func (k *stock) uses() iter.Seq[api.SrTruth] {
	return func(yield func(api.SrTruth) bool) {
		for man := k.Man.Lo; man <= k.Man.Hi; man++ {
			for ship := k.Ship.Lo; ship <= k.Ship.Hi; ship++ {
				if !yield(api.SrTruth{First: k.First.Lo, Man: man, Ship: ship}) {
					return
				}
			}
		}
	}
}

// byUse yields, for each use with which there are truths that agree with all counts, those with the least and the greatest First. All in between agree too: with more at first there is never less in a morning.
func (k *stock) byUse() iter.Seq2[api.SrTruth, api.SrTruth] {
	return func(yield func(api.SrTruth, api.SrTruth) bool) {
		for t := range k.uses() {
			low, high := t, t
			low.First = k.leastFirst(t, func(m mornings) bool { return !slices.ContainsFunc(k.counts, m.areBelow) })
			high.First = k.leastFirst(t, func(m mornings) bool { return slices.ContainsFunc(k.counts, m.areAbove) }) - 1
			if low.First <= high.First && !yield(low, high) {
				return
			}
		}
	}
}

// leastFirst returns the least First with which the mornings of a use are so; one more than can be if there is none.
func (k *stock) leastFirst(t api.SrTruth, are func(mornings) bool) int {
	return least(k.First.Lo, k.First.Hi, func(first int) bool {
		t.First = first
		m, _ := k.run(t, k.end())
		return are(m)
	})
}

// least returns the least number from lo to hi that does, hi+1 if none does. Each number above one that does has to do as well.
func least[N ~int](lo, hi N, does func(N) bool) N {
	return lo + N(sort.Search(int(hi-lo)+1, func(i int) bool { return does(lo + N(i)) }))
}

// leasts returns the truths with the least First of each use: what lasts in them lasts in all truths.
func (k *stock) leasts() (l []api.SrTruth) {
	for t := range k.byUse() {
		l = append(l, t)
	}
	return l
}

// lasts returns for how many days the kind lasts in all of some truths, if it is rationed from a day on.
func (k *stock) lasts(truths []api.SrTruth, from int) int {
	days := k.end()
	for _, t := range truths {
		_, short := k.run(t, from)
		days = min(days, short)
	}
	return days
}

// compare compares truths by First, then Man, then Ship.
func compare(a, b api.SrTruth) int {
	return cmp.Or(cmp.Compare(a.First, b.First), cmp.Compare(a.Man, b.Man), cmp.Compare(a.Ship, b.Ship))
}
