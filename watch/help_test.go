package watch_test

import (
	"fmt"
	"math"
	"math/rand/v2"
	"slices"

	"nore/api"
)

// far are ints far beyond all limits; cut down to 32 bits, some of them are small.
var far = []int{math.MinInt, math.MinInt + 1, -1 << 40, -1<<32 - 1, -1 << 32, -1<<32 + 1, math.MinInt32, math.MaxInt32, 1 << 32, 1<<32 + 1, 1<<32 + 2, 1 << 40, math.MaxInt - 1, math.MaxInt}

// These are the men of the chapter's examples.
const (
	ada = iota
	ben
	cid
	dan
)

func man(name string, kind int, not ...int) api.WaMan {
	return api.WaMan{Name: name, Kind: kind, Not: not}
}

func slot(men, least int) api.WaSlot { return api.WaSlot{Men: men, Least: least} }

// exampleC, exampleD and exampleE are C, D and E of the chapter's examples.
func exampleC() api.WaCase {
	return api.WaCase{
		Men:   []api.WaMan{man("ada", 2), man("ben", 1), man("cid", 0, 2)},
		Slots: []api.WaSlot{slot(1, 1), slot(1, 0), slot(1, 0)},
		Run:   1,
		Rest:  2,
	}
}

func exampleD() api.WaCase {
	c := exampleC()
	c.Rest = 1
	return c
}

func exampleE() api.WaCase {
	c := exampleC()
	c.Men = append(c.Men, man("dan", 1))
	return c
}

// alike are so many men, none of whom differs, who stand one slot, so many at a time.
func alike(men, size, run, rest int) api.WaCase {
	c := api.WaCase{Slots: []api.WaSlot{slot(size, 0)}, Run: run, Rest: rest}
	for i := range men {
		c.Men = append(c.Men, man(letter(i), 0))
	}
	return c
}

// letter is a name.
func letter(i int) string { return string(rune('a' + i)) }

// full is a case with as many men and slots, and with all numbers as great, as can be.
func full() api.WaCase {
	c := api.WaCase{Run: 3, Rest: 3}
	for i := range api.MaxWaMen {
		c.Men = append(c.Men, man("man-number-"+letter(i), 3, 0, 1, 2, 3, 4, 5))
	}
	for range api.MaxWaSlots {
		c.Slots = append(c.Slots, slot(2, 3))
	}
	return c
}

// free is a full case whose men stand all slots.
func free() api.WaCase {
	c := full()
	for i := range c.Men {
		c.Men[i].Not = nil
	}
	return c
}

// single are rows of one man each; -1 is an empty row.
func single(men ...int) (rota [][]int) {
	for _, m := range men {
		if m < 0 {
			rota = append(rota, nil)
		} else {
			rota = append(rota, []int{m})
		}
	}
	return rota
}

// double are rows of two men each.
func double(men ...int) (rota [][]int) {
	for i := 0; i+1 < len(men); i += 2 {
		rota = append(rota, []int{men[i], men[i+1]})
	}
	return rota
}

func cloneRota(rota [][]int) [][]int {
	rota = slices.Clone(rota)
	for i := range rota {
		rota[i] = slices.Clone(rota[i])
	}
	return rota
}

func clone(c api.WaCase) api.WaCase {
	c.Men, c.Slots = slices.Clone(c.Men), slices.Clone(c.Slots)
	for i := range c.Men {
		c.Men[i].Not = slices.Clone(c.Men[i].Not)
	}
	return c
}

func sameRota(a, b [][]int) bool { return slices.EqualFunc(a, b, slices.Equal[[]int]) }

// same reports whether two cases are equal.
func same(a, b api.WaCase) bool {
	men := slices.EqualFunc(a.Men, b.Men, func(x, y api.WaMan) bool {
		return x.Name == y.Name && x.Kind == y.Kind && slices.Equal(x.Not, y.Not)
	})
	return men && slices.Equal(a.Slots, b.Slots) && a.Run == b.Run && a.Rest == b.Rest
}

// picked are the numbers below n that are in a set.
func picked(set uint, n int) (l []int) {
	for i := range n {
		if set&(1<<i) != 0 {
			l = append(l, i)
		}
	}
	return l
}

// others are the numbers below n that are not in a list.
func others(l []int, n int) (r []int) {
	for i := range n {
		if !slices.Contains(l, i) {
			r = append(r, i)
		}
	}
	return r
}

// havingJust is the case with just these of its men.
func havingJust(c api.WaCase, who []int) api.WaCase {
	few := clone(c)
	few.Men = nil
	for _, m := range who {
		few.Men = append(few.Men, c.Men[m])
	}
	return few
}

// What follows holds the chapter's definitions, as they stand there, against the package.

// stoodInRow is how many rows at the end of a list, one after the other, a man is in.
func stoodInRow(before [][]int, man int) (n int) {
	for n < len(before) && slices.Contains(before[len(before)-1-n], man) {
		n++
	}
	return n
}

// rested is how many rows at the end of a list a man is not in.
func rested(before [][]int, man int) (n int) {
	for n < len(before) && !slices.Contains(before[len(before)-1-n], man) {
		n++
	}
	return n
}

// whyBad is why a row behind others is bad, and the man.
func whyBad(c api.WaCase, before [][]int, slot int, row []int) (why, man int) {
	x := c.Slots[slot]
	if len(row) != x.Men {
		return api.WaMen, 0
	}
	known := false
	for _, m := range row {
		known = known || c.Men[m].Kind >= x.Least
	}
	if !known {
		return api.WaLeast, 0
	}
	for _, m := range row {
		if slices.Contains(c.Men[m].Not, slot) {
			return api.WaNot, m
		}
	}
	for _, m := range row {
		if stoodInRow(before, m) == c.Run {
			return api.WaTired, m
		}
	}
	for _, m := range row {
		some := rested(before, m) < len(before)
		if some && stoodInRow(before, m) == 0 && rested(before, m) < c.Rest {
			return api.WaRest, m
		}
	}
	return api.WaGood, 0
}

// firstBad is the first row that is bad, why it is, and the man.
func firstBad(c api.WaCase, rota [][]int) (at, why, man int) {
	for i, row := range rota {
		if why, man := whyBad(c, rota[:i], i%len(c.Slots), row); why != api.WaGood {
			return i, why, man
		}
	}
	return -1, api.WaGood, 0
}

func isGood(c api.WaCase, rota [][]int) bool {
	at, _, _ := firstBad(c, rota)
	return at < 0
}

// groupsOf are all groups of so many of some men, in order.
func groupsOf(who []int, size int) (all [][]int) {
	for set := range uint(1) << len(who) {
		var group []int
		for _, i := range picked(set, len(who)) {
			group = append(group, who[i])
		}
		if len(group) == size {
			all = append(all, group)
		}
	}
	slices.SortFunc(all, slices.Compare[[]int])
	return all
}

// node is what is behind a rota: its last rows, as many as can matter, and the slot of the next one.
type node struct {
	slot int
	last [][]int
}

func nodeOf(c api.WaCase, rota [][]int) node {
	return node{slot: len(rota) % len(c.Slots), last: rota[max(0, len(rota)-api.MaxWaRun-api.MaxWaRest):]}
}

func (n node) key() string { return fmt.Sprint(n.slot, n.last) }

// behind are the nodes behind a node, and the groups that lead there, with these men in rows.
func (n node) behind(c api.WaCase, who []int) (groups [][]int, nodes []node) {
	for _, group := range groupsOf(who, c.Slots[n.slot].Men) {
		if why, _ := whyBad(c, n.last, n.slot, group); why == api.WaGood {
			last := append(slices.Clone(n.last), group)
			groups = append(groups, group)
			nodes = append(nodes, node{slot: (n.slot + 1) % len(c.Slots), last: last[max(0, len(last)-api.MaxWaRun):]})
		}
	}
	return groups, nodes
}

// graph is what can follow what, of all that can follow a rota, and which nodes lead to so many rows as one likes.
type graph struct {
	c     api.WaCase
	who   []int
	nexts map[string][]string
}

// newGraph is the graph behind a rota, with these men in the rows that follow.
func newGraph(c api.WaCase, rota [][]int, who []int) *graph {
	g := &graph{c: c, who: who, nexts: map[string][]string{}}
	for work := []node{nodeOf(c, rota)}; len(work) > 0; {
		n := work[0]
		work = work[1:]
		if _, known := g.nexts[n.key()]; known {
			continue
		}
		_, nodes := n.behind(c, who)
		g.nexts[n.key()] = nil
		for _, next := range nodes {
			g.nexts[n.key()] = append(g.nexts[n.key()], next.key())
		}
		work = append(work, nodes...)
	}
	return g
}

// rounds are the nodes behind which as many rows as there are nodes can follow, and more: some node then comes twice. If there is none behind the first one, most is how many rows can follow it.
func (g *graph) rounds(first string) (lasting map[string]bool, most int) {
	lasting = map[string]bool{}
	for k := range g.nexts {
		lasting[k] = true
	}
	most = -1
	for rows := 0; ; rows++ { // here lasting are the nodes behind which so many rows can follow
		left := map[string]bool{}
		for k := range lasting {
			left[k] = slices.ContainsFunc(g.nexts[k], func(next string) bool { return lasting[next] })
		}
		if lasting[first] && !left[first] {
			most = rows
		}
		for k, is := range left {
			if !is {
				delete(left, k)
			}
		}
		if len(left) == len(lasting) {
			return lasting, most
		}
		lasting = left
	}
}

// longestOf is how many rows a rota can have with these men, -1 if it can go on for ever.
func longestOf(c api.WaCase, who []int) int {
	_, most := newGraph(c, nil, who).rounds(nodeOf(c, nil).key())
	return most
}

// everyone are all men of a case.
func everyone(c api.WaCase) []int { return others(nil, len(c.Men)) }

// canOf and nextOf are what Can and Next have to tell.
func canOf(c api.WaCase, rota [][]int) [][]int {
	groups, _ := nodeOf(c, rota).behind(c, everyone(c))
	return groups
}

func nextOf(c api.WaCase, rota [][]int) (next [][]int) {
	first := nodeOf(c, rota)
	lasting, _ := newGraph(c, rota, everyone(c)).rounds(first.key())
	groups, nodes := first.behind(c, everyone(c))
	for i, group := range groups {
		if lasting[nodes[i].key()] {
			next = append(next, group)
		}
	}
	return next
}

// tiredness is how all is behind a rota: the slot of the next row, and for each man how many rows he has stood in a row, and how many he still has to rest.
func tiredness(c api.WaCase, rota [][]int) string {
	l := []int{len(rota) % len(c.Slots)}
	for m := range c.Men {
		left := 0
		if n := rested(rota, m); n > 0 && n < len(rota) {
			left = max(0, c.Rest-n)
		}
		l = append(l, stoodInRow(rota, m), left)
	}
	return fmt.Sprint(l)
}

// endlessOf is what Endless has to tell, of a case in which some rota can go on for ever.
func endlessOf(c api.WaCase) (rota [][]int, from int) {
	lasting, _ := newGraph(c, nil, everyone(c)).rounds(nodeOf(c, nil).key())
	var before []string
	for n := nodeOf(c, nil); ; {
		now := tiredness(c, rota)
		if i := slices.Index(before, now); i >= 0 {
			return rota, i
		}
		before = append(before, now)
		groups, nodes := n.behind(c, everyone(c))
		for i, next := range nodes {
			if lasting[next.key()] {
				rota, n = append(rota, groups[i]), next
				break
			}
		}
	}
}

// fewestOf are the fewest men who can do alone, of several the first ones.
func fewestOf(c api.WaCase) []int {
	for size := 1; size <= len(c.Men); size++ {
		for _, who := range groupsOf(everyone(c), size) {
			if longestOf(c, who) < 0 {
				return who
			}
		}
	}
	return nil
}

// neededOf are the men without whom the others cannot do.
func neededOf(c api.WaCase) (l []int) {
	for m := range c.Men {
		if longestOf(c, others([]int{m}, len(c.Men))) >= 0 {
			l = append(l, m)
		}
	}
	return l
}

// fillings are all rotas, in order, that have groups of these men in the place of empty rows, good or not.
func fillings(c api.WaCase, rota [][]int, who []int) (all [][][]int) {
	at := slices.IndexFunc(rota, func(row []int) bool { return len(row) == 0 })
	if at < 0 {
		return [][][]int{rota}
	}
	for _, group := range groupsOf(who, c.Slots[at%len(c.Slots)].Men) {
		less := slices.Clone(rota)
		less[at] = group
		all = append(all, fillings(c, less, who)...)
	}
	return all
}

// reached are the nodes, by their keys, to which some good rota leads that has groups in the place of the empty rows.
func reached(c api.WaCase, rota [][]int) map[string]node {
	at := map[string]node{"": nodeOf(c, nil)}
	for _, row := range rota {
		next := map[string]node{}
		for _, n := range at {
			groups, nodes := n.behind(c, everyone(c))
			for i, group := range groups {
				if len(row) == 0 || slices.Equal(row, group) {
					next[nodes[i].key()] = nodes[i]
				}
			}
		}
		at = next
	}
	return at
}

// fillOf is the first good rota that has groups in the place of the empty rows; none if there is none.
func fillOf(c api.WaCase, rota [][]int) [][]int {
	if len(reached(c, rota)) == 0 {
		return nil
	}
	rota = slices.Clone(rota)
	for at, row := range rota {
		if len(row) > 0 {
			continue
		}
		for _, group := range groupsOf(everyone(c), c.Slots[at%len(c.Slots)].Men) {
			if rota[at] = group; len(reached(c, rota)) > 0 {
				break
			}
		}
	}
	return rota
}

// emptied is a rota with these rows empty.
func emptied(rota [][]int, rows ...int) [][]int {
	rota = slices.Clone(rota)
	for _, i := range rows {
		rota[i] = nil
	}
	return rota
}

// missingOf are the men without whom the rows from one on can be stood.
func missingOf(c api.WaCase, rota [][]int, from int) (l []int) {
	var rows []int
	for i := from; i < len(rota); i++ {
		rows = append(rows, i)
	}
	for m := range c.Men {
		all := fillings(c, emptied(rota, rows...), others([]int{m}, len(c.Men)))
		if slices.ContainsFunc(all, func(r [][]int) bool { return isGood(c, r) }) {
			l = append(l, m)
		}
	}
	return l
}

// dice are random numbers that are the same in each run.
type dice struct{ *rand.Rand }

func newDice(seed uint64) dice { return dice{rand.New(rand.NewPCG(seed, 7))} }

// from is a random number from lo to hi.
func (d dice) from(lo, hi int) int { return lo + d.IntN(hi-lo+1) }

// someCase is a random case with at most so many men and slots.
func (d dice) someCase(men, slots int) api.WaCase {
	c := api.WaCase{Run: d.from(1, 3), Rest: d.from(1, 3)}
	if d.IntN(2) == 0 {
		c.Rest = 1
	}
	pairs, hard := d.IntN(2), d.IntN(3)
	for range d.from(1, slots) {
		c.Slots = append(c.Slots, slot(1+pairs*d.IntN(2), min(3, d.IntN(1+hard))))
	}
	for i := range d.from(max(1, men-2), men) {
		m := man(letter(i), d.from(0, 3))
		for s := range c.Slots {
			if d.IntN(8) == 0 {
				m.Not = append(m.Not, s)
			}
		}
		c.Men = append(c.Men, m)
	}
	return c
}

// goodRota is a random good rota with at most so many rows.
func (d dice) goodRota(c api.WaCase, rows int) (rota [][]int) {
	for len(rota) < rows {
		can := canOf(c, rota)
		if len(can) == 0 {
			return rota
		}
		rota = append(rota, can[d.IntN(len(can))])
	}
	return rota
}

// anyRota is a random rota with at most so many rows, most of which are good.
func (d dice) anyRota(c api.WaCase, rows int) [][]int {
	rota := d.goodRota(c, d.from(0, rows))
	if len(rota) == 0 {
		return rota
	}
	for range d.IntN(3) {
		at := d.IntN(len(rota))
		row := picked(uint(d.IntN(1<<len(c.Men))), len(c.Men))
		if all := groupsOf(everyone(c), c.Slots[at%len(c.Slots)].Men); d.IntN(6) > 0 {
			row = all[d.IntN(len(all))]
		}
		rota[at] = row
	}
	return rota
}
