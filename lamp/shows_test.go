package lamp_test

import (
	"fmt"
	"slices"
	"testing"

	"nore/api"
	"nore/lamp"
)

// expectShows tells if Shows does not return this.
func expectShows(t *testing.T, what string, c api.LpCase, x api.LpTruth, want []api.Span, e api.Errno) {
	t.Helper()
	if l, g := lamp.Shows(c, x); !slices.Equal(l, want) || g != e {
		t.Errorf("%s: Shows of %v in %v = %v, %d; it should be %v, %d", what, c, x, l, g, want, e)
	}
}

// P5.2: the examples.
func TestShowsExamples(t *testing.T) {
	expectShows(t, "C", example(), truth(0, 1), spans(0, 2, 12, 14), api.OK)
	expectShows(t, "C", example(), truth(1, 2), spans(0, 0, 6, 6, 12, 12, 18, 18), api.OK)
	expectShows(t, "the drum of DOC.md", steady(12, 1, 30, 0, 2), truth(0, 1), spans(0, 2, 12, 14, 24, 26), api.OK)
	expectShows(t, "a truth that does not agree", example(lit(3)), truth(0, 1), spans(0, 2, 12, 14), api.OK)
}

// P5.2: always lit, never lit, lit at the first second and at the last one, and a night of one second.
func TestShowsEdges(t *testing.T) {
	for _, text := range []string{"#", ".", "##", "..", "#.", ".#", "#.#", ".#.", "##.###.#", "#.#.#.#", "...##...", "##...###"} {
		expectShows(t, text, shown(text), truth(0, 1), showsOf(nightFrom(text)), api.OK)
	}
	expectShows(t, "all night, through two openings", steady(4, 1, 200, 0, 1, 2, 3), truth(0, 1), spans(0, 199), api.OK)
	expectShows(t, "never", steady(4, 1, 200), truth(0, 1), nil, api.OK)
	expectShows(t, "openings next to each other", steady(9, 1, 20, 1, 2, 3, 3, 8, 8), truth(0, 1), spans(1, 3, 8, 8, 10, 12, 17, 17, 19, 19), api.OK)
	expectShows(t, "behind the last position comes 0", steady(5, 1, 20, 0, 0, 4, 4), truth(0, 1), spans(0, 0, 4, 5, 9, 10, 14, 15, 19, 19), api.OK)
	expectShows(t, "whole turns", steady(5, 5, 20, 0, 0), truth(0, 5), spans(0, 19), api.OK)
	expectShows(t, "several turns a second", steady(2, 39, 5, 1, 1), truth(0, 39), spans(1, 1, 3, 3), api.OK)
	expectShows(t, "a turn and a little", steady(7, 40, 8, 0, 0), truth(0, 40), spans(0, 0, 7, 7), api.OK)
}

// P5.2: the drum is slower behind each Slow seconds of a run, stops at the speed 0, and is as fast as its speed again from a winding on.
func TestShowsSlower(t *testing.T) {
	c := steady(20, 3, 16, 0, 3, 9, 9)
	c.Lamp.Slow = 2
	// 0 3 6 8 10 11 12 12 ..
	expectShows(t, "slower every 2 seconds", c, truth(0, 3), spans(0, 1), api.OK)
	c.Lamp.Lit = spans(12, 12)
	expectShows(t, "it stops, lit", c, truth(0, 3), spans(6, 15), api.OK)
	c.Windings = []int{1}
	// 0 3 6 9 11 13 14 15 ..
	c.Lamp.Lit = spans(3, 3, 9, 9, 15, 15)
	expectShows(t, "wound at once", c, truth(0, 3, 3), spans(1, 1, 3, 3, 7, 15), api.OK)
	c.Windings = []int{2, 9}
	// 0 3 6 9 12 14 16 17 18 18 1 4 6 8 9 10
	c.Lamp.Lit = spans(1, 1, 6, 9, 18, 18)
	expectShows(t, "wound behind a stop", c, truth(0, 3, 3, 3), spans(2, 3, 8, 10, 12, 14), api.OK)
	c.Lamp.Slow, c.Windings = 1, []int{15}
	// 0 3 5 6 6 ..
	c.Lamp.Lit = spans(5, 5)
	expectShows(t, "slower every second", c, truth(0, 3, 3), spans(2, 2), api.OK)
	c.Lamp.Lit = spans(6, 6)
	expectShows(t, "a winding counts from the next second on", c, truth(0, 3, 3), spans(3, 15), api.OK)
	c.Lamp.Slow, c.Lamp.Lit, c.Windings = 15, spans(5, 5), nil
	// 0 3 6 .. 45, which is 5
	expectShows(t, "the last second is still fast", c, truth(0, 3), spans(15, 15), api.OK)
	c.Lamp.Slow = 14
	expectShows(t, "it is not, if Slow is less", c, truth(0, 3), nil, api.OK)
}

// P5.2: each run has its own speed.
func TestShowsSpeeds(t *testing.T) {
	c := api.LpCase{Lamp: api.LpLamp{Drum: 100, Lit: spans(4, 5, 11, 11, 14, 14), Start: span(1, 4), Speed: span(1, 4), Slow: 200, Night: 9}, Windings: []int{3, 6}}
	// 1 2 3 4 6 8 10 14 18
	expectShows(t, "ever faster", c, truth(1, 1, 2, 4), spans(3, 3, 7, 7), api.OK)
	// 1 5 9 13 15 17 19 20 21
	expectShows(t, "ever slower", c, truth(1, 4, 2, 1), spans(1, 1), api.OK)
	// 4 5 6 7 11 15 19 20 21
	expectShows(t, "fast in between", c, truth(4, 1, 4, 1), spans(0, 1, 4, 4), api.OK)
}

// P5.2: lamps and truths at random, held against the definitions.
func TestShowsAtRandom(t *testing.T) {
	d := newDice(2)
	var kinds [4]int
	for i := range 3000 {
		c, x := d.someCase([]int{8, 30, 120}[i%3], []int{30, 200}[i%2], 3, 50)
		want := showsOf(nightOf(c, x))
		expectShows(t, fmt.Sprint("random ", i), c, x, want, api.OK)
		kinds[min(3, len(want))]++
	}
	if slices.Min(kinds[:]) < 100 {
		t.Errorf("so many stretches were lit: %v", kinds)
	}
}
