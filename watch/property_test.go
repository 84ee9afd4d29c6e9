package watch_test

import (
	"fmt"
	"slices"
	"testing"

	"nore/api"
	"nore/watch"
)

// cases yields so many random cases, small and large ones.
func (d dice) cases(n int) func(yield func(int, api.WaCase) bool) {
	return func(yield func(int, api.WaCase) bool) {
		for i := range n {
			if !yield(i, d.someCase([]int{3, 4, 5}[i%3], []int{1, 3, 6}[i/3%3])) {
				return
			}
		}
	}
}

// P7, P7.7: what Endless returns is good, and with the rows from from on again and again it still is.
func TestEndlessIsKept(t *testing.T) {
	met, longest := 0, 0
	for _, c := range newDice(7).cases(600) {
		rota, from, e := watch.Endless(c)
		if e != api.OK {
			continue
		}
		met++
		longest = max(longest, len(rota)-from)
		if from < 0 || from >= len(rota) {
			t.Fatalf("Endless of %v = %v, %d", c, rota, from)
		}
		again := slices.Clone(rota)
		for range 10 {
			again = append(again, rota[from:]...)
		}
		if at, why, man := firstBad(c, again); at >= 0 {
			t.Fatalf("Endless of %v = %v, %d, but the row %d is bad: %d, %d", c, rota, from, at, why, man)
		}
		if tiredness(c, rota) != tiredness(c, rota[:from]) {
			t.Fatalf("Endless of %v = %v, %d, but all is not as it was", c, rota, from)
		}
		expectBad(t, "endless", c, again[:min(40, len(again))], -1, api.WaGood, 0, api.OK)
		for rows := range min(len(rota), 41) {
			next, e := watch.Next(c, rota[:rows])
			if e != api.OK || len(next) == 0 || !slices.Equal(next[0], rota[rows]) {
				t.Fatalf("Endless of %v = %v, but Next of the first %d rows = %v, %d", c, rota, rows, next, e)
			}
		}
	}
	if met < 100 || longest < 8 {
		t.Errorf("so often a rota went on for ever: %d; at most %d rows came again", met, longest)
	}
}

// P7, P7.8: with the men of Fewest alone some rota can go on for ever, with any fewer men none can.
func TestNoFewerMen(t *testing.T) {
	var sizes [6]int
	for _, c := range newDice(8).cases(4000) {
		few, e := watch.Fewest(c)
		sizes[len(few)]++
		for set := range uint(1) << len(c.Men) {
			who := picked(set, len(c.Men))
			if len(who) == 0 {
				continue
			}
			n, f := watch.Longest(havingJust(c, who))
			if f != api.OK || slices.Equal(who, few) && n != -1 || n == -1 && (e != api.OK || len(who) < len(few) || len(who) == len(few) && slices.Compare(who, few) < 0) {
				t.Fatalf("Fewest of %v = %v, %d, but with just %v Longest = %d, %d", c, few, e, who, n, f)
			}
		}
	}
	if slices.Min(sizes[2:]) < 10 {
		t.Errorf("so often there were so many fewest: %v", sizes)
	}
}

// P7.9: no good rota has more rows than Longest, and some has as many.
func TestNoLongerRota(t *testing.T) {
	d := newDice(9)
	met := 0
	for i, c := range d.cases(6000) {
		longest, e := watch.Longest(c)
		if e != api.OK || longest < 0 || longest < 6 && i%10 > 0 {
			continue
		}
		if longest >= 6 {
			met++
		}
		rows := [][][]int{nil} // the last rows of all good rotas of one length
		for n := range longest + 1 {
			if len(rows) == 0 {
				t.Fatalf("Longest of %v = %d, but no good rota has %d rows", c, longest, n)
			}
			rows = longerBy(c, n, rows)
		}
		if len(rows) > 0 {
			t.Fatalf("Longest of %v = %d, but there is a good rota that is longer: it ends with %v", c, longest, rows[0])
		}
		for range 5 {
			if rota := d.goodRota(c, 41); len(rota) > longest {
				t.Fatalf("Longest of %v = %d, but %v is good", c, longest, rota)
			}
		}
	}
	if met < 50 {
		t.Errorf("so often the longest rota had 6 rows or more: %d", met)
	}
}

// longerBy is what follows rows behind which there are so many: the last rows, of each kind once, with one row more.
func longerBy(c api.WaCase, n int, rows [][][]int) (longer [][][]int) {
	known := map[string]bool{}
	for _, last := range rows {
		_, nodes := node{slot: n % len(c.Slots), last: last}.behind(c, everyone(c))
		for _, next := range nodes {
			if k := next.key(); !known[k] {
				known[k] = true
				longer = append(longer, next.last)
			}
		}
	}
	return longer
}

// P7, P7.9: if some rota can go on for ever, any rota that goes on by groups of Next is good as long as it is followed.
func TestNextGoesOn(t *testing.T) {
	d := newDice(10)
	met := 0
	for _, c := range d.cases(200) {
		if n, e := watch.Longest(c); n >= 0 || e != api.OK {
			expectNext(t, "without an endless one", c, nil, nil, api.OK)
			continue
		}
		met++
		var rota [][]int
		for len(rota) < 40 {
			next, e := watch.Next(c, rota)
			if e != api.OK || len(next) == 0 {
				t.Fatalf("Next of %v, %v = %v, %d", c, rota, next, e)
			}
			rota = append(rota, next[d.IntN(len(next))])
			expectBad(t, fmt.Sprint(c, rota), c, rota, -1, api.WaGood, 0, api.OK)
		}
		if next, e := watch.Next(c, rota); e != api.OK || len(next) == 0 {
			t.Fatalf("Next of %v, %v = %v, %d", c, rota, next, e)
		}
	}
	if met < 50 {
		t.Errorf("so often a rota went on for ever: %d", met)
	}
}

// P7, P7.10: each man of Needed is among those of Fewest; without any other man all others can do alone.
func TestNeededMen(t *testing.T) {
	needs := [2]int{}
	for _, c := range newDice(11).cases(600) {
		needed, e := watch.Needed(c)
		few, f := watch.Fewest(c)
		if e != f {
			t.Fatalf("Needed of %v has the error %d, Fewest has %d", c, e, f)
		}
		if e != api.OK {
			continue
		}
		for m := range c.Men {
			n := 0
			if len(c.Men) > 1 {
				n, _ = watch.Longest(havingJust(c, others([]int{m}, len(c.Men))))
			}
			if is := slices.Contains(needed, m); is != (n >= 0) || is && !slices.Contains(few, m) {
				t.Fatalf("Needed of %v = %v, Fewest = %v, but without %d Longest = %d", c, needed, few, m, n)
			} else if is {
				needs[0]++
			} else {
				needs[1]++
			}
		}
	}
	if slices.Min(needs[:]) < 200 {
		t.Errorf("so many men were needed, and not: %v", needs)
	}
}

// P7.11: what Fill returns is good, and the same in all rows that were not empty; any other groups there that make it good come behind it.
func TestFillIsGood(t *testing.T) {
	d := newDice(12)
	met := 0
	for _, c := range d.cases(1500) {
		rota := d.goodRota(c, d.from(1, 40))
		empty := slices.Clone(rota)
		for range min(d.IntN(13), len(rota)) {
			empty[d.IntN(len(rota))] = nil
		}
		full, e := watch.Fill(c, empty)
		if e != api.OK || len(full) != len(rota) || !isGood(c, full) {
			t.Fatalf("Fill of %v, %v = %v, %d, but there is %v", c, empty, full, e, rota)
		}
		for i, row := range empty {
			if len(row) > 0 && !slices.Equal(row, full[i]) {
				t.Fatalf("Fill of %v, %v = %v", c, empty, full)
			}
		}
		switch slices.CompareFunc(full, rota, slices.Compare[[]int]) {
		case 1:
			t.Fatalf("Fill of %v, %v = %v, but there is %v", c, empty, full, rota)
		case -1:
			met++
		}
	}
	if met < 500 {
		t.Errorf("so often it was not that of before: %d", met)
	}
}

// P7.12: each man who is in no row from from on is one of those whom Missing returns; any good rota that has the same rows before from, and as many, has each man in some row from there on whom Missing does not return.
func TestMissingMen(t *testing.T) {
	d := newDice(13)
	told := [2]int{}
	for _, c := range d.cases(1500) {
		rota := d.goodRota(c, d.from(1, 40))
		from := len(rota) - d.IntN(min(12, len(rota))+1)
		missing, e := watch.Missing(c, rota, from)
		if e != api.OK || !slices.IsSorted(missing) {
			t.Fatalf("Missing of %v, %v from %d = %v, %d", c, rota, from, missing, e)
		}
		for range 5 {
			other := rota[:from:from]
			for len(other) < len(rota) {
				can := canOf(c, other)
				if len(can) == 0 {
					break
				}
				other = append(other, can[d.IntN(len(can))])
			}
			if len(other) < len(rota) {
				other = rota
			}
			for m := range c.Men {
				is := slices.Contains(slices.Concat(other[from:]...), m)
				if !is && !slices.Contains(missing, m) {
					t.Fatalf("Missing of %v, %v from %d = %v, but %v is good", c, rota, from, missing, other)
				}
			}
		}
		told[0] += len(missing)
		if from == 0 && len(rota) > 0 { // then they need not be there at all
			for _, m := range missing {
				few := havingJust(c, others([]int{m}, len(c.Men)))
				if n, e := watch.Longest(few); e != api.OK || isLess(n, len(rota)) {
					t.Fatalf("Missing of %v, %v = %v, but without %d Longest = %d, %d", c, rota, missing, m, n, e)
				}
			}
		}
		told[1] += len(c.Men) - len(missing)
	}
	if slices.Min(told[:]) < 500 {
		t.Errorf("so many men could be missing, and not: %v", told)
	}
}

// isLess reports whether a rota cannot have as many rows; -1 is more than all.
func isLess(a, b int) bool { return a >= 0 && (b < 0 || a < b) }

// P7.13: with a longer Run, a shorter Rest, a lesser Least, or fewer of Not, a rota that was good still is; Longest is not less.
func TestEasier(t *testing.T) {
	d := newDice(14)
	var longer [4]int
	for i, c := range d.cases(1500) {
		easy := clone(c)
		m, s := d.IntN(len(c.Men)), d.IntN(len(c.Slots))
		switch i % 4 {
		case 0:
			easy.Run = d.from(c.Run, 3)
		case 1:
			easy.Rest = d.from(1, c.Rest)
		case 2:
			easy.Slots[s].Least = d.from(0, c.Slots[s].Least)
		case 3:
			if n := len(c.Men[m].Not); n > 0 {
				at := d.IntN(n)
				easy.Men[m].Not = slices.Delete(easy.Men[m].Not, at, at+1)
			}
		}
		before, e := watch.Longest(c)
		after, f := watch.Longest(easy)
		if e != api.OK || f != api.OK || isLess(after, before) {
			t.Fatalf("Longest of %v = %d, %d; of %v = %d, %d", c, before, e, easy, after, f)
		}
		if before != after {
			longer[i%4]++
		}
		rota := d.goodRota(c, d.from(1, 40))
		expectBad(t, fmt.Sprint(easy, rota), easy, rota, -1, api.WaGood, 0, api.OK)
	}
	if slices.Min(longer[:]) < 5 {
		t.Errorf("so often it was longer with another Run, Rest, Least, Not: %v", longer)
	}
}

// P7.14: with one more man, behind all others, a rota that was good still is, and a rota that could go on for ever still can.
func TestOneMoreMan(t *testing.T) {
	d := newDice(15)
	met, more := 0, 0
	for _, c := range d.cases(1500) {
		if len(c.Men) == api.MaxWaMen {
			continue
		}
		after := clone(c)
		after.Men = append(after.Men, man("one-more", d.from(0, 3), picked(uint(d.IntN(1<<len(c.Slots))), len(c.Slots))...))
		rota := d.goodRota(c, d.from(1, 40))
		expectBad(t, fmt.Sprint(after, rota), after, rota, -1, api.WaGood, 0, api.OK)
		next, e := watch.Next(c, rota)
		if e != api.OK {
			t.Fatalf("Next of %v, %v has the error %d", c, rota, e)
		}
		then, e := watch.Next(after, rota)
		if e != api.OK || slices.ContainsFunc(next, func(g []int) bool {
			return !slices.ContainsFunc(then, func(h []int) bool { return slices.Equal(g, h) })
		}) {
			t.Fatalf("Next of %v, %v = %v; of %v = %v, %d", c, rota, next, after, then, e)
		}
		if len(next) > 0 {
			met++
		}
		if len(then) > len(next) {
			more++
		}
	}
	if met < 100 || more < 100 {
		t.Errorf("so often a rota could go on: %d; and more could: %d", met, more)
	}
}
