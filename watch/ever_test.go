package watch_test

import (
	"fmt"
	"slices"
	"testing"

	"nore/api"
)

// expectEver tells if the functions that ask of a case alone do not return this; without rows no rota can go on for ever.
func expectEver(t *testing.T, what string, c api.WaCase, longest int, rota [][]int, from int, fewest, needed []int) {
	t.Helper()
	e := api.OK
	if longest >= 0 {
		e = api.ErrDown
	}
	expectLongest(t, what, c, longest, api.OK)
	expectEndless(t, what, c, rota, from, e)
	expectFewest(t, what, c, fewest, e)
	expectNeeded(t, what, c, needed, e)
}

// P7.4, P7.5: the examples.
func TestEverExamples(t *testing.T) {
	expectEver(t, "C", exampleC(), -1, single(ada, cid, ben, ada, cid), 2, []int{ada, ben, cid}, []int{ada, ben, cid})
	expectEver(t, "C without ben", havingJust(exampleC(), []int{ada, cid}), 2, nil, 0, nil, nil)
	expectEver(t, "D", exampleD(), -1, single(ada, ben, ada, ben, ada, ben, ada), 1, []int{ada, ben}, []int{ada, ben})
	expectEver(t, "E", exampleE(), -1, single(ada, ben, dan, ada, ben), 2, []int{ada, ben, cid}, nil)
}

// Example 7 of the document: three men keep three watches a day if each rests for two watches; with two of them a rota ends after two.
func TestDocumentExample(t *testing.T) {
	c := alike(3, 1, 1, 2)
	c.Slots = slices.Repeat(c.Slots, 3)
	expectLongest(t, "three men", c, -1, api.OK)
	for m := range 3 {
		expectLongest(t, fmt.Sprint("without ", m), havingJust(c, others([]int{m}, 3)), 2, api.OK)
	}
}

// P7.4: how long men last who differ in nothing, who stand and rest as long as they can.
func TestLongestAlike(t *testing.T) {
	for run := 1; run <= 3; run++ {
		for rest := 1; rest <= 3; rest++ {
			for men := 1; men <= 5; men++ {
				// While one rests for so many rows, others have to stand these, each no more than Run of them.
				longest := men * run
				if (men-1)*run >= rest {
					longest = -1
				}
				expectLongest(t, fmt.Sprint(men, " men, Run ", run, ", Rest ", rest), alike(men, 1, run, rest), longest, api.OK)
			}
			expectLongest(t, "one man, two in a row", alike(1, 2, run, rest), 0, api.OK)
			expectLongest(t, "two men at once", alike(2, 2, run, rest), run, api.OK)
		}
	}
}

// P7.4: no group can stand at all, or in the first slot, or in a later one.
func TestLongestNone(t *testing.T) {
	expectEver(t, "nobody stands anything", full(), 0, nil, 0, nil, nil)
	for slots := 1; slots <= 6; slots++ {
		for at := range slots {
			c := alike(5, 1, 1, 1)
			c.Slots = slices.Repeat(c.Slots, slots)
			c.Slots[at].Least = 1
			expectEver(t, fmt.Sprint("nobody knows enough for ", at), c, at, nil, 0, nil, nil)
			c.Slots[at].Least = 0
			for i := range c.Men {
				c.Men[i].Not = []int{at}
			}
			expectEver(t, fmt.Sprint("nobody stands ", at), c, at, nil, 0, nil, nil)
			c.Men[4].Not = nil
			expectLongest(t, fmt.Sprint("one stands ", at), c, map[bool]int{true: -1, false: 1}[slots > 1], api.OK)
		}
	}
}

// P7.4: a rota for ever that comes again from its first row on, and others in which that takes long.
func TestEndlessFrom(t *testing.T) {
	c := alike(5, 2, 3, 1)
	rota := double(0, 1, 0, 1, 0, 1, 2, 3, 0, 1)
	expectEndless(t, "pairs", c, rota, 1, api.OK)
	c = alike(2, 1, 1, 1)
	expectEndless(t, "two men by turns", c, single(0, 1, 0), 1, api.OK)
	c.Slots = slices.Repeat(c.Slots, 5)
	expectEndless(t, "two men by turns, five slots", c, single(0, 1, 0, 1, 0, 1, 0, 1, 0, 1, 0), 1, api.OK)
	c = alike(3, 1, 3, 2)
	expectEndless(t, "three men", c, single(0, 0, 0, 1, 1, 0, 0), 2, api.OK)
	c = alike(2, 1, 3, 3)
	expectEndless(t, "two men", c, single(0, 0, 0, 1, 1, 1, 0, 0, 0), 3, api.OK)
}

// P7.4: rotas that end, or come again, just behind more rows than a rota may have that is asked about.
func TestEverFar(t *testing.T) {
	c := api.WaCase{
		Men:   []api.WaMan{man("a", 3, 2), man("b", 0, 4), man("c", 3, 4), man("d", 3, 0), man("e", 3)},
		Slots: []api.WaSlot{slot(1, 1), slot(2, 0), slot(2, 0), slot(2, 0), slot(1, 2), slot(2, 1)},
		Run:   2,
		Rest:  3,
	}
	expectEver(t, "a rota that ends", c, 83, nil, 0, nil, nil)
	if n := longestOf(c, everyone(c)); n != 83 {
		t.Errorf("the longest rota has %d rows", n)
	}
	c.Men = []api.WaMan{man("a", 3), man("b", 1), man("c", 3, 4), man("d", 2), man("e", 0)}
	c.Slots = []api.WaSlot{slot(1, 0), slot(1, 0), slot(2, 0), slot(2, 0), slot(2, 0), slot(1, 0)}
	rota, from := endlessOf(c)
	if len(rota) != 87 || from != 3 {
		t.Errorf("from the row %d of %d rows all comes again", from, len(rota))
	}
	expectEndless(t, "a rota that comes again", c, rota, from, api.OK)
}

// P7.5: of several who can do alone the first ones are told; those who are needed by all need not be enough.
func TestFewestEdges(t *testing.T) {
	c := alike(4, 1, 1, 1)
	c.Slots = slices.Repeat(c.Slots, 3)
	c.Men[0].Not, c.Men[2].Not = []int{0}, []int{1}
	expectFewest(t, "two of four", c, []int{1, 3}, api.OK)
	expectNeeded(t, "two of four", c, nil, api.OK)
	c.Men[1].Not, c.Men[3].Not = []int{0}, nil
	expectFewest(t, "three of four", c, []int{0, 1, 2}, api.OK)
	expectNeeded(t, "three of four", c, nil, api.OK)
	c = alike(5, 1, 1, 1)
	c.Men[4].Kind, c.Men[3].Kind = 3, 3
	expectFewest(t, "any two", c, []int{0, 1}, api.OK)
	expectNeeded(t, "any two", c, nil, api.OK)
	c.Slots[0].Least = 3
	expectFewest(t, "the last two", c, []int{3, 4}, api.OK)
	expectNeeded(t, "the last two", c, []int{3, 4}, api.OK)
	c = alike(5, 2, 1, 1)
	c.Men[1].Kind, c.Men[4].Kind = 1, 1
	c.Slots[0].Least = 1
	expectFewest(t, "two who know, and two others", c, []int{0, 1, 2, 4}, api.OK)
	expectNeeded(t, "two who know, and two others", c, []int{1, 4}, api.OK)
	expectEver(t, "one man cannot", alike(1, 1, 3, 1), 3, nil, 0, nil, nil)
}

// P7.4, P7.5: random cases are as the definitions say.
func TestEver(t *testing.T) {
	d := newDice(3)
	var ends [2]int
	var needs [3]int
	for i := range 400 {
		c := d.someCase([]int{3, 4, 5}[i%3], []int{1, 3, 6}[i/3%3])
		longest := longestOf(c, everyone(c))
		if longest >= 0 {
			expectEver(t, fmt.Sprint(c), c, longest, nil, 0, nil, nil)
			ends[0]++
			continue
		}
		rota, from := endlessOf(c)
		fewest, needed := fewestOf(c), neededOf(c)
		expectEver(t, fmt.Sprint(c), c, -1, rota, from, fewest, needed)
		ends[1]++
		switch len(needed) {
		case 0:
			needs[0]++
		case len(fewest):
			needs[2]++
		default:
			needs[1]++
		}
	}
	if slices.Min(ends[:]) < 50 || slices.Min(needs[:]) < 10 {
		t.Errorf("so often rotas ended, or went on: %v; so often none, some, all of the fewest were needed: %v", ends, needs)
	}
}
