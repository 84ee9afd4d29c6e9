package watch_test

import (
	"fmt"
	"slices"
	"testing"

	"nore/api"
	"nore/watch"
)

// P7.2: the examples of Bad.
func TestBadExamples(t *testing.T) {
	c := exampleC()
	for _, f := range []struct {
		rota         [][]int
		at, why, man int
	}{
		{single(ada, cid, ben), -1, api.WaGood, 0},
		{single(ada, ada), 1, api.WaTired, ada},
		{single(cid), 0, api.WaLeast, 0},
		{single(ada, ben, cid), 2, api.WaNot, cid},
		{single(ada, cid, ben, ben), 3, api.WaTired, ben},
		{single(ada, cid, ada), 2, api.WaRest, ada},
		{single(-1), 0, api.WaMen, 0},
		{nil, -1, api.WaGood, 0},
	} {
		expectBad(t, fmt.Sprint(f.rota), c, f.rota, f.at, f.why, f.man, api.OK)
	}
}

// P7.2: all that can be wrong with a row, at the edges; of several the first one, and the first man of whom it is.
func TestBadEdges(t *testing.T) {
	fits := func(run, rest int) api.WaCase { return alike(5, 2, run, rest) }
	knows := func(least int, kinds ...int) api.WaCase {
		c := alike(len(kinds), 2, 1, 1)
		for i, kind := range kinds {
			c.Men[i].Kind = kind
		}
		c.Slots[0].Least = least
		return c
	}
	stays := func(not ...[]int) api.WaCase {
		c := alike(len(not), 2, 1, 1)
		c.Slots = slices.Repeat(c.Slots, 3)
		for i := range not {
			c.Men[i].Not = not[i]
		}
		return c
	}
	for i, f := range []struct {
		c            api.WaCase
		rota         [][]int
		at, why, man int
	}{
		// WaMen
		{fits(1, 1), [][]int{{0, 1, 2}}, 0, api.WaMen, 0},
		{fits(1, 1), single(4), 0, api.WaMen, 0},
		{fits(1, 1), [][]int{{0, 1}, {2, 3}, nil, {0}}, 2, api.WaMen, 0},
		{fits(1, 1), [][]int{{0, 1}, {0}}, 1, api.WaMen, 0},
		{stays([]int{0}, nil), single(0), 0, api.WaMen, 0},
		{alike(5, 1, 1, 1), [][]int{{3}, {1, 2}}, 1, api.WaMen, 0},
		{knows(3, 0, 0), single(0), 0, api.WaMen, 0},
		// WaLeast
		{knows(3, 2, 2), double(0, 1), 0, api.WaLeast, 0},
		{knows(3, 2, 3), double(0, 1), -1, api.WaGood, 0},
		{knows(3, 3, 0), double(0, 1), -1, api.WaGood, 0},
		{knows(2, 3, 0), double(0, 1), -1, api.WaGood, 0},
		{knows(1, 0, 1, 0, 0), double(0, 1, 2, 3), 1, api.WaLeast, 0},
		{knows(1, 0, 1, 0, 0), double(1, 2, 0, 2), 1, api.WaLeast, 0},
		{knows(0, 0, 0), double(0, 1), -1, api.WaGood, 0},
		// WaNot
		{stays(nil, []int{1}, nil, []int{0}), double(0, 1, 2, 3), -1, api.WaGood, 0},
		{stays(nil, []int{1}, nil, []int{0}), double(2, 3), 0, api.WaNot, 3},
		{stays([]int{0}, nil, nil, []int{0}), double(0, 3), 0, api.WaNot, 0},
		{stays(nil, []int{1}, nil, nil), double(2, 3, 0, 1), 1, api.WaNot, 1},
		{stays(nil, []int{1}, nil, nil), double(0, 1, 0, 1), 1, api.WaNot, 1},
		{stays(nil, []int{0}, nil, nil, nil), double(0, 2, 3, 4, 0, 1, 1, 3), 3, api.WaNot, 1},
		{stays(nil, []int{0}, nil, nil, nil), double(0, 2, 3, 4, 0, 2, 3, 4), -1, api.WaGood, 0},
		{stays([]int{0, 1, 2}, nil, nil), double(1, 2, 0, 1), 1, api.WaNot, 0},
		// WaTired
		{fits(1, 1), double(0, 1, 1, 2), 1, api.WaTired, 1},
		{fits(1, 1), double(1, 2, 1, 2), 1, api.WaTired, 1},
		{fits(2, 1), double(0, 1, 0, 1), -1, api.WaGood, 0},
		{fits(2, 1), double(0, 1, 0, 1, 0, 1), 2, api.WaTired, 0},
		{fits(2, 1), double(0, 1, 1, 2, 1, 3), 2, api.WaTired, 1},
		{fits(2, 1), double(0, 1, 1, 2, 2, 3), -1, api.WaGood, 0},
		{fits(3, 1), double(0, 1, 0, 1, 0, 1), -1, api.WaGood, 0},
		{fits(3, 1), double(0, 1, 0, 2, 0, 3, 0, 4), 3, api.WaTired, 0},
		{fits(3, 1), double(0, 4, 1, 4, 2, 4, 3, 4), 3, api.WaTired, 4},
		{fits(1, 3), double(0, 1, 2, 3, 0, 2), 2, api.WaTired, 2},
		// WaRest
		{fits(1, 1), double(0, 1, 2, 3, 0, 1), -1, api.WaGood, 0},
		{fits(1, 2), double(0, 1, 2, 3, 1, 4), 2, api.WaRest, 1},
		{fits(1, 3), single(0), 0, api.WaMen, 0},
		{fits(3, 2), double(0, 1, 0, 2, 1, 3), 2, api.WaRest, 1},
		{fits(3, 2), double(0, 1, 0, 2, 3, 4, 1, 2), 3, api.WaRest, 2},
		{fits(3, 2), double(0, 1, 2, 3, 2, 3, 0, 1), -1, api.WaGood, 0},
		{fits(3, 3), double(0, 1, 2, 3, 2, 3, 0, 1), 3, api.WaRest, 0},
		{fits(3, 3), double(0, 1, 2, 3, 2, 3, 2, 3), -1, api.WaGood, 0},
		{fits(3, 3), double(0, 1, 2, 3, 2, 3, 2, 3, 0, 1), -1, api.WaGood, 0},
		{fits(3, 3), double(0, 1, 2, 3, 2, 3, 2, 3, 3, 4), 4, api.WaTired, 3},
	} {
		expectBad(t, fmt.Sprint("rota ", i), f.c, f.rota, f.at, f.why, f.man, api.OK)
	}
}

// P7.2: what is wrong with the first row that is bad decides, whatever is wrong with others.
func TestFirstBadRow(t *testing.T) {
	c := exampleC()
	bad := []struct {
		row      []int
		why, man int
	}{{nil, api.WaMen, 0}, {[]int{ada, ben}, api.WaMen, 0}, {[]int{cid}, api.WaLeast, 0}, {[]int{ben}, api.WaTired, ben}}
	for _, first := range bad {
		for _, second := range bad {
			rota := append(single(ada, cid, ben), first.row, second.row, nil)
			expectBad(t, fmt.Sprint(rota), c, rota, 3, first.why, first.man, api.OK)
		}
	}
}

// P7.2: Stood counts the rows of each man, as many as there can be.
func TestStood(t *testing.T) {
	c := exampleC()
	expectStood(t, "nothing", c, nil, []int{0, 0, 0}, api.OK)
	expectStood(t, "five rows", c, single(ada, cid, ben, ada, cid), []int{2, 1, 2}, api.OK)
	expectStood(t, "a bad row", c, single(ada, cid, ben, ada, ada), nil, api.ErrDown)
	expectStood(t, "an empty row", c, single(-1), nil, api.ErrDown)
	expectStood(t, "a man who stands none", exampleE(), single(ada, cid, ben), []int{1, 1, 1, 0}, api.OK)
	most := alike(4, 2, 1, 1)
	expectStood(t, "forty rows", most, slices.Repeat(double(0, 1, 2, 3), 20), []int{20, 20, 20, 20}, api.OK)
	expectStood(t, "forty rows of one man", alike(2, 1, 1, 1), slices.Repeat(single(1, 0), 20), []int{20, 20}, api.OK)
}

// P7.3: the examples of Can and Next.
func TestCanExamples(t *testing.T) {
	c := exampleC()
	expectCan(t, "behind ada", c, single(ada), single(ben, cid), api.OK)
	expectCan(t, "behind ada and cid", c, single(ada, cid), single(ben), api.OK)
	expectCan(t, "behind ada and ben", c, single(ada, ben), nil, api.OK)
	expectNext(t, "behind nothing", c, nil, single(ada, ben), api.OK)
	expectNext(t, "behind ada", c, single(ada), single(cid), api.OK)
	expectNext(t, "behind ada and ben", c, single(ada, ben), nil, api.OK)
}

// P7.3: both ask for a good rota; groups come in order; how many rows there are does not matter.
func TestCanEdges(t *testing.T) {
	c := exampleC()
	for _, rota := range [][][]int{single(ada, ada), single(cid), single(-1), single(ada, -1, ben), {{ada, ben}}} {
		expectCan(t, fmt.Sprint(rota), c, rota, nil, api.ErrDown)
		expectNext(t, fmt.Sprint(rota), c, rota, nil, api.ErrDown)
	}
	pairs := alike(5, 2, 1, 1)
	all := double(0, 1, 0, 2, 0, 3, 0, 4, 1, 2, 1, 3, 1, 4, 2, 3, 2, 4, 3, 4)
	expectCan(t, "pairs", pairs, nil, all, api.OK)
	expectNext(t, "pairs", pairs, nil, all, api.OK)
	expectCan(t, "pairs behind 0 and 3", pairs, double(0, 3), double(1, 2, 1, 4, 2, 4), api.OK)
	expectCan(t, "pairs of one man", alike(1, 2, 1, 1), nil, nil, api.OK)
	expectNext(t, "pairs of three men", alike(3, 2, 1, 1), nil, nil, api.OK)
	forty := slices.Repeat(double(0, 1, 2, 3), 20)
	expectCan(t, "behind forty rows", pairs, forty, double(0, 1, 0, 4, 1, 4), api.OK)
	expectNext(t, "behind forty rows", pairs, forty, double(0, 1, 0, 4, 1, 4), api.OK)
	expectCan(t, "at the end", alike(1, 1, 3, 1), single(0, 0), single(0), api.OK)
	expectNext(t, "at the end", alike(1, 1, 3, 1), single(0, 0), nil, api.OK)
	expectCan(t, "behind the end", alike(1, 1, 3, 1), single(0, 0, 0), nil, api.OK)
}

// P7.2, P7.3: Bad, Stood, Can and Next of random rotas are as the definitions say.
func TestRotas(t *testing.T) {
	d := newDice(1)
	var whys [6]int
	var fewer int
	for i := range 7000 {
		c := d.someCase([]int{3, 4, 5}[i%3], []int{1, 3, 6}[i/3%3])
		rota := d.anyRota(c, []int{6, 12, 40}[i/9%3])
		at, why, man := firstBad(c, rota)
		whys[why]++
		expectBad(t, fmt.Sprint(c, rota), c, rota, at, why, man, api.OK)
		if at >= 0 {
			expectStood(t, fmt.Sprint(c, rota), c, rota, nil, api.ErrDown)
			expectCan(t, fmt.Sprint(c, rota), c, rota, nil, api.ErrDown)
			expectNext(t, fmt.Sprint(c, rota), c, rota, nil, api.ErrDown)
			continue
		}
		stood := make([]int, len(c.Men))
		for _, m := range slices.Concat(rota...) {
			stood[m]++
		}
		expectStood(t, fmt.Sprint(c, rota), c, rota, stood, api.OK)
		can := canOf(c, rota)
		expectCan(t, fmt.Sprint(c, rota), c, rota, can, api.OK)
		if i%2 == 0 {
			next := nextOf(c, rota)
			expectNext(t, fmt.Sprint(c, rota), c, rota, next, api.OK)
			if len(next) > 0 && len(next) < len(can) {
				fewer++
			}
		}
	}
	if slices.Min(whys[:]) < 100 || fewer < 10 {
		t.Errorf("so often rows were good, or bad: %v; so often just some groups lasted: %d", whys, fewer)
	}
}

// P7.3: a group of Can makes a rota that is good, any other group one that is not.
func TestCanIsGood(t *testing.T) {
	d := newDice(2)
	for range 300 {
		c := d.someCase(5, 6)
		rota := d.goodRota(c, d.from(0, 39))
		can, e := watch.Can(c, rota)
		if e != api.OK {
			t.Fatalf("Can of %v, %v has the error %d", c, rota, e)
		}
		for set := range uint(1) << len(c.Men) {
			group := picked(set, len(c.Men))
			at, _, _, e := watch.Bad(c, append(slices.Clone(rota), group))
			if is := slices.ContainsFunc(can, func(g []int) bool { return slices.Equal(g, group) }); e != api.OK || is != (at < 0) {
				t.Fatalf("Can of %v, %v = %v, but with %v Bad = %d, %d", c, rota, can, group, at, e)
			}
		}
	}
}
