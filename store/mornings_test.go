package store_test

import (
	"fmt"
	"slices"
	"testing"

	"nore/api"
	"nore/store"
)

// P8.2: the chapter's examples.
func TestMorningsExamples(t *testing.T) {
	s := exampleS()
	expectMornings(t, "water", s, water, truth(35, 3, 0), 5, []int{35, 26, 17, 21, 15, 6}, 5, api.OK)
	expectMornings(t, "oil", s, oil, truth(45, 0, 10), 5, []int{45, 35, 25, 15, 5, 0}, 4, api.OK)
	expectMornings(t, "water that is rationed late", withFirst(23, 23), water, truth(23, 3, 0), 3, []int{23, 14, 5, 9, 6, 1}, 5, api.OK)
	expectMornings(t, "and later", withFirst(23, 23), water, truth(23, 3, 0), 4, []int{23, 14, 5, 9, 3, 0}, 4, api.OK)
}

// P8.2: the day on which a kind runs short is the first one on which there is less than is used; if there is just as much, it does not.
func TestRunsShort(t *testing.T) {
	for _, f := range []struct {
		first, ship int
		levels      []int
		short       int
	}{
		{0, 0, []int{0, 0, 0, 0}, 3},
		{0, 1, []int{0, 0, 0, 0}, 0},
		{1, 1, []int{1, 0, 0, 0}, 1},
		{6, 2, []int{6, 4, 2, 0}, 3},
		{5, 2, []int{5, 3, 1, 0}, 2},
		{3, 2, []int{3, 1, 0, 0}, 1},
		{300, 12, []int{300, 288, 276, 264}, 3},
	} {
		s := plain(3, f.first, f.ship)
		for from := range 4 {
			expectMornings(t, fmt.Sprint(f.first, " less ", f.ship), s, 0, truth(f.first, 0, f.ship), from, f.levels, f.short, api.OK)
		}
	}
	s := plain(4, 3, 2)
	s.Cargos = []api.SrCargo{cargo(2, 0, 50)}
	expectMornings(t, "short, and then a cargo", s, 0, truth(3, 0, 2), 4, []int{3, 1, 0, 48, 46}, 1, api.OK)
	s.Cargos = []api.SrCargo{cargo(1, 0, 1)}
	expectMornings(t, "a cargo just in time", s, 0, truth(3, 0, 2), 4, []int{3, 1, 0, 0, 0}, 2, api.OK)
}

// P8.2: what is above Room is left in the tender, but what was there before stays; all cargo of a day comes together, in whatever order.
func TestRoom(t *testing.T) {
	for _, f := range []struct {
		room, first int
		amounts     []int
		level       int
	}{
		{20, 5, []int{10}, 15},
		{20, 10, []int{10}, 20},
		{20, 10, []int{11}, 20},
		{20, 10, []int{300}, 20},
		{20, 20, []int{5}, 20},
		{20, 25, []int{5}, 25},
		{20, 300, []int{300}, 300},
		{0, 0, []int{5}, 0},
		{0, 7, []int{5}, 7},
		{20, 5, []int{6, 6}, 17},
		{20, 5, []int{6, 10}, 20},
		{20, 5, []int{10, 6}, 20},
		{20, 5, []int{300, 300, 300, 300, 300, 300, 300, 300}, 20},
		{300, 0, []int{300, 300, 300, 300, 300, 300, 300, 300}, 300},
		{300, 0, []int{1, 2, 3, 4, 5, 6, 7, 8}, 36},
	} {
		s := plain(2, f.first, 0)
		s.Kinds[0].Room = f.room
		for _, n := range f.amounts {
			s.Cargos = append(s.Cargos, cargo(0, 0, n))
		}
		expectMornings(t, fmt.Sprint(f), s, 0, truth(f.first, 0, 0), 2, []int{f.first, f.level, f.level}, 2, api.OK)
	}
	s := plain(3, 25, 4)
	s.Kinds[0].Room = 20
	s.Cargos = []api.SrCargo{cargo(2, 0, 9), cargo(0, 0, 9), cargo(1, 0, 9)}
	expectMornings(t, "above its room at first", s, 0, truth(25, 0, 4), 3, []int{25, 21, 17, 16}, 3, api.OK)
}

// P8.2: a cargo of another kind, or of another day, is none of this one.
func TestCargoOfAnother(t *testing.T) {
	s := exampleS()
	s.Kinds[oil].First, s.Kinds[oil].Room = span(0, 0), 300
	s.Cargos = []api.SrCargo{cargo(0, water, 1), cargo(4, oil, 20), cargo(1, oil, 30), cargo(0, water, 2)}
	expectMornings(t, "oil", s, oil, truth(0, 0, 8), 5, []int{0, 0, 22, 14, 6, 18}, 0, api.OK)
	expectMornings(t, "water", s, water, truth(30, 2, 0), 5, []int{30, 27, 21, 17, 13, 7}, 5, api.OK)
}

// P8.2: rations are of what the men use together, rounded up; the use of the ship stays.
func TestRations(t *testing.T) {
	for _, f := range []struct{ men, man, ship, ration, used int }{
		{3, 3, 0, 500, 5},
		{3, 3, 4, 500, 9},
		{2, 3, 0, 500, 3},
		{1, 1, 0, 500, 1},
		{1, 1, 0, 1, 1},
		{12, 6, 0, 1, 1},
		{12, 6, 12, 0, 12},
		{12, 6, 12, 1000, 84},
		{12, 6, 12, 999, 84},
		{12, 6, 0, 13, 1},
		{12, 6, 0, 14, 2},
		{10, 5, 1, 20, 2},
		{10, 5, 1, 21, 3},
		{0, 6, 7, 500, 7},
		{5, 0, 7, 500, 7},
	} {
		s := plain(1, 300, f.ship)
		s.Men[0], s.Kinds[0].Man, s.Kinds[0].Ration = f.men, span(f.man, f.man), f.ration
		expectMornings(t, fmt.Sprint(f), s, 0, truth(300, f.man, f.ship), 0, []int{300, 300 - f.used}, 1, api.OK)
		full := f.men*f.man + f.ship
		expectMornings(t, fmt.Sprint(f, " not rationed"), s, 0, truth(300, f.man, f.ship), 1, []int{300, 300 - full}, 1, api.OK)
	}
	s := plain(4, 40, 1)
	s.Men, s.Kinds[0].Man, s.Kinds[0].Ration = []int{1, 2, 3, 4}, span(4, 4), 250
	for from, levels := range [][]int{{40, 38, 35, 31, 26}, {40, 35, 32, 28, 23}, {40, 35, 26, 22, 17}, {40, 35, 26, 13, 8}, {40, 35, 26, 13, 0}} {
		short := 4
		if from == 4 {
			short = 3
		}
		expectMornings(t, fmt.Sprint("rationed from ", from), s, 0, truth(40, 4, 1), from, levels, short, api.OK)
	}
}

// P8.2: random truths of random stores, held against the definition unit by unit.
func TestMorningsOfRandomStores(t *testing.T) {
	d := newDice(1)
	short, rationed, left, above, late := 0, 0, 0, 0, 0
	for i := range 6000 {
		s, _ := d.someCase(i)
		for kind, x := range d.someTruths(s) {
			from := d.from(0, len(s.Men))
			p := pastOf(s, kind, x, from)
			levels, day, e := store.Mornings(s, kind, x, from)
			if !slices.Equal(levels, p.levels) || day != p.short || e != api.OK {
				t.Fatalf("Mornings of %v, %d, %v, %d = %v, %d, %d; it should be %v, %d", s, kind, x, from, levels, day, e, p.levels, p.short)
			}
			if p.short < len(s.Men) {
				short++
			}
			if !slices.Equal(levels, pastOf(s, kind, x, len(s.Men)).levels) {
				rationed++
			}
			if p.left > 0 {
				left++
			}
			if x.First > s.Kinds[kind].Room {
				above++
			}
			if p.short < len(s.Men) && levels[len(s.Men)] > 0 {
				late++
			}
		}
	}
	if short < 500 || rationed < 500 || left < 500 || above < 500 || late < 100 {
		t.Errorf("so often it ran short: %d, rations changed something: %d, cargo was left: %d, there was more than room: %d, a cargo came too late: %d", short, rationed, left, above, late)
	}
}
