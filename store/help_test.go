package store_test

import (
	"math"
	"math/rand/v2"
	"slices"

	"nore/api"
)

// far are ints far beyond all limits; cut down to 32 bits, some of them are small.
var far = []int{math.MinInt, math.MinInt + 1, -1 << 40, -1<<32 - 1, -1 << 32, -1<<32 + 1, math.MinInt32, math.MaxInt32, 1 << 32, 1<<32 + 1, 1<<32 + 2, 1 << 40, math.MaxInt - 1, math.MaxInt}

// These are the kinds of the chapter's examples.
const (
	oil = iota
	water
)

func span(lo, hi int) api.Span { return api.Span{Lo: lo, Hi: hi} }

func cargo(day, kind, amount int) api.SrCargo {
	return api.SrCargo{Day: day, Kind: kind, Amount: amount}
}

func count(day, kind, lo, hi int) api.SrCount {
	return api.SrCount{Day: day, Kind: kind, Amount: span(lo, hi)}
}

func counts(l ...api.SrCount) []api.SrCount { return l }

func truth(first, man, ship int) api.SrTruth {
	return api.SrTruth{First: first, Man: man, Ship: ship}
}

// exampleS is S of the chapter's examples, and exampleC its C.
func exampleS() api.SrStores {
	return api.SrStores{
		Men: []int{3, 3, 2, 2, 3},
		Kinds: []api.SrKind{
			{Name: "oil", First: span(40, 50), Ship: span(8, 10), Room: 60, Ration: 1000},
			{Name: "water", First: span(30, 40), Man: span(2, 3), Room: 40, Ration: 500},
		},
		Cargos: []api.SrCargo{cargo(2, water, 10)},
	}
}

func exampleC() api.SrCount { return count(2, oil, 25, 28) }

// withFirst is S with another First of water.
func withFirst(lo, hi int) api.SrStores {
	s := exampleS()
	s.Kinds[water].First = span(lo, hi)
	return s
}

// plain is one kind of which just so much was there at first, and the ship uses so much on each of some days; nobody is on board.
func plain(days, first, ship int) api.SrStores {
	return api.SrStores{
		Men:   make([]int, days),
		Kinds: []api.SrKind{{Name: "coal", First: span(first, first), Ship: span(ship, ship), Room: api.MaxSrStore}},
	}
}

// full are stores with as much of all, and with all numbers as great, as can be.
func full() api.SrStores {
	s := api.SrStores{Men: slices.Repeat([]int{api.MaxSrMen}, api.MaxSrDays)}
	for i := range api.MaxSrKinds {
		s.Kinds = append(s.Kinds, api.SrKind{Name: "kind-number-" + letter(i), First: span(0, 300), Man: span(0, 6), Ship: span(0, 12), Room: 300, Ration: 1000})
	}
	for i := range api.MaxSrCargos {
		s.Cargos = append(s.Cargos, cargo(29, i%4, 300))
	}
	return s
}

// fullCounts are as many counts of full as can be, with all numbers as great as can be.
func fullCounts() (l []api.SrCount) {
	for i := range api.MaxSrCounts {
		l = append(l, count(30, i%4, 0, 600))
	}
	return l
}

// letter is a name.
func letter(i int) string { return string(rune('a' + i)) }

func clone(s api.SrStores) api.SrStores {
	return api.SrStores{Men: slices.Clone(s.Men), Kinds: slices.Clone(s.Kinds), Cargos: slices.Clone(s.Cargos)}
}

// same reports whether stores are equal.
func same(a, b api.SrStores) bool {
	return slices.Equal(a.Men, b.Men) && slices.Equal(a.Kinds, b.Kinds) && slices.Equal(a.Cargos, b.Cargos)
}

// withCargo is stores with one more cargo, in front of all others.
func withCargo(s api.SrStores, c api.SrCargo) api.SrStores {
	s = clone(s)
	s.Cargos = append([]api.SrCargo{c}, s.Cargos...)
	return s
}

// What follows holds the chapter's definitions, as they stand there, against the package: unit by unit, truth by truth.

// past is what becomes of a kind: what there is in each morning, the first day on which it runs short, what was left in the tender, and what was used.
type past struct {
	levels           []int
	short            int
	left, used, came int
}

// pastOf is what becomes of a kind in a truth, if it is rationed from a day on.
func pastOf(s api.SrStores, kind int, t api.SrTruth, from int) past {
	p := past{levels: []int{t.First}, short: len(s.Men)}
	there := t.First
	for day, men := range s.Men {
		tender := 0
		for _, c := range s.Cargos {
			if c.Kind == kind && c.Day == day {
				tender += c.Amount
			}
		}
		p.came += tender
		for ; tender > 0 && there < s.Kinds[kind].Room; tender-- {
			there++
		}
		p.left += tender
		for need := needOf(s, kind, t, men, day >= from); need > 0; need-- {
			if there == 0 {
				p.short = min(p.short, day)
				break
			}
			there--
			p.used++
		}
		p.levels = append(p.levels, there)
	}
	return p
}

// needOf is what is used on a day by so many men, and the ship.
func needOf(s api.SrStores, kind int, t api.SrTruth, men int, rationed bool) int {
	use := 0
	for range men {
		use += t.Man
	}
	if rationed {
		part := 0
		for part*1000 < use*s.Kinds[kind].Ration {
			part++
		}
		use = part
	}
	return use + t.Ship
}

// everyTruth are all truths that can be of a kind, by First, then Man, then Ship.
func everyTruth(k api.SrKind) (all []api.SrTruth) {
	for first := k.First.Lo; first <= k.First.Hi; first++ {
		for man := k.Man.Lo; man <= k.Man.Hi; man++ {
			for ship := k.Ship.Lo; ship <= k.Ship.Hi; ship++ {
				all = append(all, truth(first, man, ship))
			}
		}
	}
	return all
}

// agrees reports whether a truth agrees with the counts of a kind.
func agrees(s api.SrStores, l []api.SrCount, kind int, t api.SrTruth) bool {
	p := pastOf(s, kind, t, len(s.Men))
	for _, c := range l {
		if n := p.levels[c.Day]; c.Kind == kind && (n < c.Amount.Lo || n > c.Amount.Hi) {
			return false
		}
	}
	return true
}

// truthsOf are the truths of a kind, by First, then Man, then Ship.
func truthsOf(s api.SrStores, l []api.SrCount, kind int) (all []api.SrTruth) {
	for _, t := range everyTruth(s.Kinds[kind]) {
		if agrees(s, l, kind, t) {
			all = append(all, t)
		}
	}
	return all
}

// levelOf is what Level has to tell of these truths.
func levelOf(s api.SrStores, truths []api.SrTruth, kind, day int) api.Span {
	x := span(math.MaxInt, math.MinInt)
	for _, t := range truths {
		n := pastOf(s, kind, t, len(s.Men)).levels[day]
		x = span(min(x.Lo, n), max(x.Hi, n))
	}
	return x
}

// lastsOf is for how many days the kind lasts in all of these truths, if it is rationed from a day on.
func lastsOf(s api.SrStores, truths []api.SrTruth, kind, from int) int {
	days := len(s.Men)
	for _, t := range truths {
		days = min(days, pastOf(s, kind, t, from).short)
	}
	return days
}

// shortOf is what Short has to tell of these truths, if the kind does not surely last.
func shortOf(s api.SrStores, truths []api.SrTruth, kind int) (api.SrTruth, int) {
	day := lastsOf(s, truths, kind, len(s.Men))
	for _, t := range truths {
		if pastOf(s, kind, t, len(s.Men)).short == day {
			return t, day
		}
	}
	return api.SrTruth{}, 0
}

// lastsIn reports whether the kind lasts to the end in all of these truths, if it is rationed from a day on.
func lastsIn(s api.SrStores, truths []api.SrTruth, kind, from int) bool {
	return !slices.ContainsFunc(truths, func(t api.SrTruth) bool { return pastOf(s, kind, t, from).short < len(s.Men) })
}

// cargoOf is the least amount with which the kind lasts in all of these truths; -1 if there is none.
func cargoOf(s api.SrStores, truths []api.SrTruth, kind, day int) int {
	for amount := range api.MaxSrStore + 1 {
		if lastsIn(withCargo(s, cargo(day, kind, amount)), truths, kind, len(s.Men)) {
			return amount
		}
	}
	return -1
}

// rationOf is the last day from which on the kind can be rationed, so that it lasts in all of these truths; -1 if there is none.
func rationOf(s api.SrStores, truths []api.SrTruth, kind int) int {
	for from := len(s.Men); from >= 0; from-- {
		if lastsIn(s, truths, kind, from) {
			return from
		}
	}
	return -1
}

// picked are the numbers below n that are in a set.
func picked(set, n int) (l []int) {
	for i := range n {
		if set&(1<<i) != 0 {
			l = append(l, i)
		}
	}
	return l
}

// without are the counts that are not in a list of indices.
func without(l []api.SrCount, indices []int) (r []api.SrCount) {
	for i, c := range l {
		if !slices.Contains(indices, i) {
			r = append(r, c)
		}
	}
	return r
}

// allTrue reports whether each kind has a truth that agrees with these counts.
func allTrue(s api.SrStores, l []api.SrCount) bool {
	for kind := range s.Kinds {
		if !slices.ContainsFunc(everyTruth(s.Kinds[kind]), func(t api.SrTruth) bool { return agrees(s, l, kind, t) }) {
			return false
		}
	}
	return true
}

// wrongOf is what Wrong has to tell: of all lists of counts the shortest one, and of several the first one.
func wrongOf(s api.SrStores, l []api.SrCount) (best []int) {
	found := false
	for set := range 1 << len(l) {
		w := picked(set, len(l))
		if found && (len(w) > len(best) || len(w) == len(best) && slices.Compare(w, best) >= 0) {
			continue
		}
		if allTrue(s, without(l, w)) {
			best, found = w, true
		}
	}
	return best
}

// dice are random numbers that are the same in each run.
type dice struct{ *rand.Rand }

func newDice(seed uint64) dice { return dice{rand.New(rand.NewPCG(seed, 7))} }

// from is a random number from lo to hi.
func (d dice) from(lo, hi int) int { return lo + d.IntN(hi-lo+1) }

// span is a random span of at most so many numbers, from lo to hi.
func (d dice) span(lo, hi, wide int) api.Span {
	a := d.from(lo, hi)
	return span(a, min(hi, a+d.IntN(wide)))
}

// kind is a random kind of which about so much is used on some days with some men.
func (d dice) kind(name string, days, men int) api.SrKind {
	k := api.SrKind{Name: name, Man: d.span(0, api.MaxSrMan, 3), Ship: d.span(0, api.MaxSrShip, 3), Ration: d.from(0, api.All)}
	if d.IntN(3) == 0 {
		k.Man = span(0, 0)
	}
	used := min(api.MaxSrStore-10, days*(men*k.Man.Lo+k.Ship.Lo))
	k.First = d.span(d.IntN(used+1), min(api.MaxSrStore, used+20), 10)
	k.Room = d.from(0, api.MaxSrStore)
	if d.IntN(2) == 0 {
		k.Room = d.from(0, max(1, k.First.Hi))
	}
	return k
}

// someStores are random stores for at most so many days.
func (d dice) someStores(days int) (s api.SrStores) {
	men := d.from(0, 4)
	for range d.from(1, days) {
		s.Men = append(s.Men, d.from(0, men))
	}
	for i := range d.from(1, 3) {
		s.Kinds = append(s.Kinds, d.kind(letter(i), len(s.Men), (men+1)/2))
	}
	for range d.IntN(6) {
		s.Cargos = append(s.Cargos, cargo(d.IntN(len(s.Men)), d.IntN(len(s.Kinds)), d.from(0, 30)))
	}
	return s
}

// someTruths are a random truth of each kind.
func (d dice) someTruths(s api.SrStores) (l []api.SrTruth) {
	for _, k := range s.Kinds {
		l = append(l, truth(d.from(k.First.Lo, k.First.Hi), d.from(k.Man.Lo, k.Man.Hi), d.from(k.Ship.Lo, k.Ship.Hi)))
	}
	return l
}

// trueCounts are so many random counts of what is true of each kind.
func (d dice) trueCounts(s api.SrStores, truths []api.SrTruth, n int) (l []api.SrCount) {
	for range n {
		day, kind := d.from(0, len(s.Men)), d.IntN(len(s.Kinds))
		level := pastOf(s, kind, truths[kind], len(s.Men)).levels[day]
		l = append(l, count(day, kind, max(0, level-d.IntN(5)), level+d.IntN(5)))
	}
	return l
}

// someCounts are at most so many random counts, most of which are true of one truth of each kind.
func (d dice) someCounts(s api.SrStores, most int) []api.SrCount {
	l := d.trueCounts(s, d.someTruths(s), d.from(0, most))
	if d.IntN(3) > 0 {
		return l
	}
	for i := range l {
		if d.IntN(2) == 0 {
			lo := max(0, l[i].Amount.Lo+d.from(-9, 9))
			l[i].Amount = span(lo, lo+d.IntN(4))
		}
	}
	return l
}

// someCase are random stores, small and large ones, and random counts of them.
func (d dice) someCase(i int) (api.SrStores, []api.SrCount) {
	s := d.someStores([]int{2, 5, 12, 30}[i%4])
	return s, d.someCounts(s, []int{0, 2, 4, 8}[i/4%4])
}
