package watch_test

import (
	"fmt"
	"slices"
	"testing"

	"nore/api"
)

// P7.6: the examples.
func TestFillExamples(t *testing.T) {
	c := exampleC()
	expectFill(t, "behind ada", c, single(ada, -1, -1), single(ada, cid, ben), api.OK)
	expectFill(t, "around cid", c, single(-1, cid, -1), single(ada, cid, ben), api.OK)
	rota := single(ada, cid, ben, ada)
	expectMissing(t, "E", exampleE(), rota, 3, []int{ada, ben, cid, dan}, api.OK)
	expectMissing(t, "C", c, rota, 3, []int{ben, cid}, api.OK)
}

// P7.6: how many rows can be empty; what is bad, and what cannot be made good.
func TestFillEdges(t *testing.T) {
	c := exampleC()
	expectFill(t, "no rows", c, nil, nil, api.OK)
	expectFill(t, "nothing empty", c, single(ada, cid, ben), single(ada, cid, ben), api.OK)
	expectFill(t, "nothing empty, and bad", c, single(ada, ada), nil, api.ErrDown)
	turns := slices.Repeat(single(ada, cid, ben), 13)
	for rows := range 40 {
		switch what := fmt.Sprint(rows, " empty rows"); {
		case rows > 12:
			expectFill(t, what, c, make([][]int, rows), nil, api.ErrRange)
		case rows == 2: // behind these none can stand
			expectFill(t, what, c, make([][]int, rows), single(ada, ben), api.OK)
		default:
			expectFill(t, what, c, make([][]int, rows), turns[:rows], api.OK)
		}
	}
	var twelve, thirteen []int
	for i := range 12 {
		twelve = append(twelve, 3*i)
	}
	thirteen = append(twelve, 38)
	expectFill(t, "12 of 39 rows empty", c, emptied(turns, twelve...), turns, api.OK)
	expectFill(t, "13 of 39 rows empty", c, emptied(turns, thirteen...), nil, api.ErrRange)
	bad := slices.Clone(turns)
	bad[1] = []int{ada}
	expectFill(t, "12 of 39 rows empty, and bad", c, emptied(bad, twelve...), nil, api.ErrDown)
	expectFill(t, "13 of 39 rows empty, and bad", c, emptied(bad, thirteen...), nil, api.ErrRange)
	expectFill(t, "13 empty rows, and no man", c, append(make([][]int, 13), []int{3}), nil, api.ErrNone)
	expectFill(t, "a row of two men", c, [][]int{nil, {ada, ben}}, nil, api.ErrDown)
	expectFill(t, "nobody can stand", full(), single(-1), nil, api.ErrDown)
	expectFill(t, "a row that nobody can stand before", c, single(-1, ben, -1), nil, api.ErrDown)
	expectFill(t, "the last row decides", c, single(-1, -1, ada), single(ben, cid, ada), api.OK)
	expectFill(t, "it need not go on", c, single(ada, -1), single(ada, ben), api.OK)
}

// P7.6: as many rows as can be empty, of which the last one decides, in the largest cases.
func TestFillFar(t *testing.T) {
	c := free()
	c.Men[4].Not = []int{0}
	for rest := 1; rest <= 3; rest++ {
		c.Rest = rest
		for _, last := range double(0, 1, 2, 3, 3, 4) {
			rota := append(make([][]int, 12), last)
			want, e := fillOf(c, rota), api.OK
			if slices.Contains(last, 4) {
				e = api.ErrDown
			}
			if (len(want) == 0) != (e == api.ErrDown) {
				t.Fatalf("%v can be filled: %v", rota, want)
			}
			expectFill(t, fmt.Sprint("Rest ", rest, ", ", last), c, rota, want, e)
		}
	}
}

// P7.6: from which rows on it can be asked, and of which rotas.
func TestMissingEdges(t *testing.T) {
	c := exampleC()
	turns := slices.Repeat(single(ada, cid, ben), 13)
	all := []int{ada, ben, cid}
	expectMissing(t, "no rows", c, nil, 0, all, api.OK)
	expectMissing(t, "no row of none", c, nil, 1, nil, api.ErrRange)
	for rows := range 40 {
		for _, from := range append([]int{-1, rows + 1}, far...) {
			expectMissing(t, fmt.Sprint(rows, " rows, from ", from), c, turns[:rows], from, nil, api.ErrRange)
		}
		expectMissing(t, fmt.Sprint(rows, " rows, from behind them"), c, turns[:rows], rows, all, api.OK)
		if rows > 12 {
			expectMissing(t, fmt.Sprint(rows, " rows, from 13 before the end"), c, turns[:rows], rows-13, nil, api.ErrRange)
			expectMissing(t, fmt.Sprint(rows, " rows, from 12 before the end"), c, turns[:rows], rows-12, nil, api.OK)
			expectMissing(t, fmt.Sprint(rows, " rows, from the first one"), c, turns[:rows], 0, nil, api.ErrRange)
		}
	}
	expectMissing(t, "a bad row before", c, single(ada, ada, ben), 3, nil, api.ErrDown)
	expectMissing(t, "a bad row behind", c, single(ada, cid, cid), 2, nil, api.ErrDown)
	expectMissing(t, "an empty row", c, single(ada, cid, -1), 2, nil, api.ErrDown)
	expectMissing(t, "a bad row, and too many", c, slices.Repeat(single(ada), 13), 0, nil, api.ErrRange)
	expectMissing(t, "a bad row, and from no row", c, single(ada, ada), 3, nil, api.ErrRange)
	expectMissing(t, "no man, and from no row", c, single(ada, 3), 3, nil, api.ErrNone)
	expectMissing(t, "one of five", free(), double(0, 1, 2, 3), 1, []int{0, 1, 2, 3, 4}, api.OK)
	expectMissing(t, "who stood before", c, single(ada, cid, ben, ada), 2, []int{cid}, api.OK)
	expectMissing(t, "who is in no row", exampleE(), single(ada, cid, ben), 0, []int{ada, ben, cid, dan}, api.OK)
}

// P7.6, P7.11: Fill of random rotas is the first one that is good.
func TestFill(t *testing.T) {
	d := newDice(4)
	var ends, later int
	for i := range 3000 {
		c := d.someCase([]int{3, 4, 5}[i%3], []int{1, 3, 6}[i/3%3])
		rota := d.anyRota(c, []int{3, 6, 12}[i/9%3])
		for range min(len(rota), d.from(0, 3)) {
			rota[d.IntN(len(rota))] = nil
		}
		all := fillings(c, rota, everyone(c))
		at := slices.IndexFunc(all, func(r [][]int) bool { return isGood(c, r) })
		if at < 0 {
			expectFill(t, fmt.Sprint(c, rota), c, rota, nil, api.ErrDown)
			ends++
			continue
		}
		expectFill(t, fmt.Sprint(c, rota), c, rota, all[at], api.OK)
		if at > 0 {
			later++
		}
	}
	if ends < 300 || later < 300 {
		t.Errorf("so often none was good: %d, and not just the first one: %d", ends, later)
	}
}

// P7.6, P7.11: Fill of random rotas with many empty rows.
func TestFillMany(t *testing.T) {
	d := newDice(6)
	var ends, later int
	for i := range 300 {
		c := d.someCase([]int{3, 4, 5}[i%3], []int{1, 3, 6}[i/3%3])
		rota := d.goodRota(c, []int{6, 12, 40}[i/9%3])
		kept := slices.Clone(rota)
		for range min(len(rota), 12) {
			rota[d.IntN(len(rota))] = nil
		}
		if at := len(rota) - 1; at >= 0 && i%2 == 0 {
			all := groupsOf(everyone(c), c.Slots[at%len(c.Slots)].Men)
			rota[at] = all[d.IntN(len(all))]
		}
		want := fillOf(c, rota)
		if len(want) < len(rota) {
			expectFill(t, fmt.Sprint(c, rota), c, rota, nil, api.ErrDown)
			ends++
			continue
		}
		expectFill(t, fmt.Sprint(c, rota), c, rota, want, api.OK)
		if !sameRota(want, kept) {
			later++
		}
	}
	if ends < 10 || later < 100 {
		t.Errorf("so often none was good: %d, and it was not that of before: %d", ends, later)
	}
}

// P7.6, P7.12: Missing of random rotas names those without whom some rows can be stood.
func TestMissing(t *testing.T) {
	d := newDice(5)
	var named [6]int
	for i := range 1500 {
		c := d.someCase([]int{3, 4, 5}[i%3], []int{1, 3, 6}[i/3%3])
		rota := d.goodRota(c, []int{3, 6, 40}[i/9%3])
		from := len(rota) - d.IntN(min(4, len(rota))+1)
		want := missingOf(c, rota, from)
		named[len(want)]++
		expectMissing(t, fmt.Sprint(c, rota, from), c, rota, from, want, api.OK)
	}
	if slices.Min(named[:]) < 20 {
		t.Errorf("so many men were named: %v", named)
	}
}
