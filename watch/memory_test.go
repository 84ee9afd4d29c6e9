package watch_test

import (
	"slices"
	"sync"
	"testing"

	"nore/api"
	"nore/watch"
)

// answers are what all functions return, as one list of numbers.
func answers(c api.WaCase, rota [][]int, from int) (r []int) {
	add := func(e api.Errno, n ...int) { r = append(append(r, n...), int(e)) }
	addRows := func(l [][]int, e api.Errno) {
		for _, row := range l {
			add(api.Errno(len(row)), row...)
		}
		add(e, len(l))
	}
	part, at, e := watch.Check(c)
	add(e, part, at)
	at, why, man, e := watch.Bad(c, rota)
	add(e, at, why, man)
	l, e := watch.Stood(c, rota)
	add(e, l...)
	addRows(watch.Can(c, rota))
	addRows(watch.Next(c, rota))
	at, e = watch.Longest(c)
	add(e, at)
	rows, at, e := watch.Endless(c)
	addRows(rows, e)
	add(e, at)
	l, e = watch.Fewest(c)
	add(e, l...)
	l, e = watch.Needed(c)
	add(e, l...)
	addRows(watch.Fill(c, rota))
	l, e = watch.Missing(c, rota, from)
	add(e, l...)
	return r
}

// These are put into the memory behind the ends of lists.
var (
	behindMan  = man("behind", 7, 77)
	behindSlot = slot(7, 77)
)

// withRoom is a list with something in the memory behind its end.
func withRoom[T any](l []T, behind T) []T { return append(slices.Clip(l), behind)[:len(l)] }

// behind is what is in the memory behind the end of a list.
func behind[T any](l []T) T { return l[:len(l)+1][len(l)] }

// roomy is a case and a rota whose lists have more memory behind their ends.
func roomy(c api.WaCase, rota [][]int) (api.WaCase, [][]int) {
	c = clone(c)
	for i := range c.Men {
		c.Men[i].Not = withRoom(c.Men[i].Not, 77)
	}
	c.Men, c.Slots = withRoom(c.Men, behindMan), withRoom(c.Slots, behindSlot)
	rota = cloneRota(rota)
	for i := range rota {
		rota[i] = withRoom(rota[i], 77)
	}
	return c, withRoom(rota, []int{77})
}

// P7.15, R4: no argument is changed, nor the memory behind its ends.
func TestArgumentsStay(t *testing.T) {
	d := newDice(16)
	for i, c := range d.cases(400) {
		rota := d.anyRota(c, 12)
		for range d.IntN(3) {
			if len(rota) > 0 {
				rota[d.IntN(len(rota))] = nil
			}
		}
		switch i % 10 {
		case 8:
			c.Run = 0
		case 9:
			rota = append(rota, []int{9})
		}
		c, rota = roomy(c, rota)
		keptCase, keptRota := clone(c), cloneRota(rota)
		answers(c, rota, d.from(0, len(rota)))
		if !same(c, keptCase) || !sameRota(rota, keptRota) {
			t.Fatalf("%v, %v was changed; it was %v, %v", c, rota, keptCase, keptRota)
		}
		if behind(c.Men).Name != "behind" || behind(c.Slots) != behindSlot || !slices.Equal(behind(rota), []int{77}) {
			t.Fatalf("behind the ends of %v, %v something was changed", c, rota)
		}
		for _, m := range c.Men {
			if behind(m.Not) != 77 {
				t.Fatalf("behind the Not of %v something was changed", m)
			}
		}
		for _, row := range rota {
			if behind(row) != 77 {
				t.Fatalf("behind the row %v something was changed", row)
			}
		}
	}
}

// fill writes something into all of a list, and into the memory behind its end.
func fill[T any](l []T, x T) {
	l = l[:cap(l)]
	for i := range l {
		l[i] = x
	}
}

// fillRows writes something into all rows one by one, and tells if any of the others changes.
func fillRows(t *testing.T, what string, rows [][]int) {
	t.Helper()
	for i := range rows {
		kept := cloneRota(rows)
		fill(rows[i], 70+i)
		for k := range rows {
			if k != i && !slices.Equal(rows[k], kept[k]) {
				t.Fatalf("%s: the rows %d and %d share memory", what, i, k)
			}
		}
	}
	fill(rows, []int{77})
}

// P7.15, R4: results are new memory: what is written into one is not in another one, nor in an argument.
func TestResultsAreNew(t *testing.T) {
	c, rota := exampleE(), single(ada, cid, ben, ada)
	gaps := single(ada, -1, ben, -1)
	pairs := free()
	before, beforePairs := answers(c, rota, 2), answers(pairs, double(0, 1, 2, 3), 1)
	for range 2 {
		for _, x := range []struct {
			c          api.WaCase
			rota, gaps [][]int
		}{{c, rota, gaps}, {pairs, double(0, 1, 2, 3), [][]int{{0, 1}, nil}}} {
			stood, _ := watch.Stood(x.c, x.rota)
			few, _ := watch.Fewest(x.c)
			needed, _ := watch.Needed(x.c)
			missing, _ := watch.Missing(x.c, x.rota, len(x.rota)-1)
			if len(stood) == 0 || len(few) == 0 || len(missing) == 0 {
				t.Fatalf("Stood = %v, Fewest = %v, Missing = %v", stood, few, missing)
			}
			for _, l := range [][]int{stood, few, needed, missing} {
				fill(l, 77)
			}
			can, _ := watch.Can(x.c, x.rota[:1])
			next, _ := watch.Next(x.c, x.rota[:1])
			endless, _, _ := watch.Endless(x.c)
			full, _ := watch.Fill(x.c, x.gaps)
			same, _ := watch.Fill(x.c, x.rota)
			kept := cloneRota(x.rota)
			for what, l := range map[string][][]int{"Can": can, "Next": next, "Endless": endless, "Fill": full, "Fill, nothing empty": same} {
				if len(l) < 2 {
					t.Fatalf("%s = %v", what, l)
				}
				fillRows(t, what, l)
			}
			if !sameRota(x.rota, kept) || !slices.Equal(x.gaps[0], kept[0]) || len(x.gaps[1]) > 0 {
				t.Fatalf("behind a change of results the rotas are %v, %v", x.rota, x.gaps)
			}
		}
	}
	if after := answers(c, rota, 2); !slices.Equal(before, after) {
		t.Errorf("behind a change of results: %v; it was %v", after, before)
	}
	if after := answers(pairs, double(0, 1, 2, 3), 1); !slices.Equal(beforePairs, after) {
		t.Errorf("behind a change of results: %v; it was %v", after, beforePairs)
	}
}

// R4: nothing is kept between calls, whatever was asked before, or is asked at the same time; the same call has the same result.
func TestNothingIsKept(t *testing.T) {
	d := newDice(17)
	type asked struct {
		c       api.WaCase
		rota    [][]int
		from    int
		numbers []int
	}
	var all []asked
	for _, c := range d.cases(60) {
		a := asked{c: c, rota: d.anyRota(c, 12)}
		a.from = d.from(0, len(a.rota))
		a.numbers = answers(a.c, a.rota, a.from)
		all = append(all, a)
	}
	var workers sync.WaitGroup
	for k := range 4 {
		workers.Go(func() {
			for i := range all {
				a := all[(i*7+k*11)%len(all)]
				if n := answers(a.c, a.rota, a.from); !slices.Equal(n, a.numbers) {
					t.Errorf("%v, %v: %v; it was %v", a.c, a.rota, n, a.numbers)
				}
			}
		})
	}
	workers.Wait()
}

// R3: a nil slice and an empty one are the same value.
func TestNilAndEmpty(t *testing.T) {
	c := exampleC()
	c.Men[ada].Not, c.Men[ben].Not = nil, nil
	before, beforeNone := answers(c, single(ada, -1, ben), 1), answers(c, nil, 0)
	c.Men[ada].Not, c.Men[ben].Not = []int{}, []int{}
	if after := answers(c, [][]int{{ada}, {}, {ben}}, 1); !slices.Equal(before, after) {
		t.Errorf("with empty lists %v; with nil ones %v", after, before)
	}
	if after := answers(c, [][]int{}, 0); !slices.Equal(beforeNone, after) {
		t.Errorf("with an empty rota %v; with a nil one %v", after, beforeNone)
	}
	c.Men = []api.WaMan{}
	expectCheck(t, "no men", c, 1, 0, api.ErrLong)
	c = exampleC()
	c.Slots = []api.WaSlot{}
	expectCheck(t, "no slots", c, 1, 0, api.ErrLong)
}

// P1, P7.15, R5: any arguments are accepted.
func TestAnyArguments(t *testing.T) {
	numbers := append([]int{-1, 0, 1, 2, 3, 4, 5, 6, 12, 40}, far...)
	for _, n := range numbers {
		for _, k := range numbers {
			for _, change := range []func(c *api.WaCase){
				func(c *api.WaCase) {},
				func(c *api.WaCase) { c.Run, c.Rest = n, k },
				func(c *api.WaCase) { c.Slots[0] = slot(n, k) },
				func(c *api.WaCase) { c.Slots[2] = slot(k, n) },
				func(c *api.WaCase) { c.Men[ada].Kind, c.Men[cid].Kind = n, k },
				func(c *api.WaCase) { c.Men[ben].Not = []int{n, k} },
			} {
				c := exampleC()
				change(&c)
				answers(c, [][]int{{n}, {n, k}, nil}, n)
				answers(c, single(ada, cid), k)
			}
		}
	}
	for _, c := range []api.WaCase{{}, {Men: make([]api.WaMan, 3)}, {Slots: make([]api.WaSlot, 3)}, exampleC(), full(), free()} {
		for _, rota := range [][][]int{nil, make([][]int, 3), make([][]int, 12), make([][]int, 40), make([][]int, 1<<16), {{0}, {0, 1, 2, 3, 4, 5}}, {make([]int, 1<<16)}} {
			answers(c, rota, 0)
			answers(c, rota, len(rota))
		}
	}
}

// P1: large cases are answered, whatever rows are empty; if each way to them were looked at for itself, this would not end.
func TestLargeCases(t *testing.T) {
	d := newDice(18)
	for range 1000 {
		c := d.someCase(5, 6)
		for len(c.Men) < 5 {
			c.Men = append(c.Men, man(letter(len(c.Men)), d.from(0, 3)))
		}
		for len(c.Slots) < 6 {
			c.Slots = append(c.Slots, slot(2, 0))
		}
		c.Run = 3
		answers(c, make([][]int, 12), 0)
		rota := make([][]int, 40)
		for i, row := range d.goodRota(c, 40) {
			if i%4 > 0 || i > 36 {
				rota[i] = row
			}
		}
		answers(c, rota[:d.from(13, 40)], 0)
	}
}
