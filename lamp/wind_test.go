package lamp_test

import (
	"fmt"
	"slices"
	"testing"

	"nore/api"
	"nore/lamp"
)

// expectLongest tells if Longest does not return this.
func expectLongest(t *testing.T, what string, x api.LpLamp, l api.LpLight, want int, e api.Errno) {
	t.Helper()
	if n, g := lamp.Longest(x, l); n != want || g != e {
		t.Errorf("%s: Longest of %v, %v = %d, %d; it should be %d, %d", what, x, l, n, g, want, e)
	}
}

// expectWind tells if Wind does not return this.
func expectWind(t *testing.T, what string, x api.LpLamp, l api.LpLight, want []int, e api.Errno) {
	t.Helper()
	if r, g := lamp.Wind(x, l); !slices.Equal(r, want) || g != e {
		t.Errorf("%s: Wind of %v, %v = %v, %d; it should be %v, %d", what, x, l, r, g, want, e)
	}
}

// exampleNight is L of the chapter's examples, in another night.
func exampleNight(seconds int) api.LpLamp {
	x := exampleLamp()
	x.Night = seconds
	return x
}

// P5.7: the examples.
func TestLongestExamples(t *testing.T) {
	expectLongest(t, "nore", exampleLamp(), noreLight(), 24, api.OK)
	expectLongest(t, "sunk", exampleLamp(), sunkLight(), 2, api.OK)
	expectWind(t, "sunk in a night of 7", exampleNight(7), sunkLight(), []int{2, 4, 6}, api.OK)
}

// P5.7: windings each as late as possible: the last one is before the end of the night.
func TestWindNights(t *testing.T) {
	for night := 1; night <= 200; night++ {
		var want []int
		for second := 2; second <= night-1; second += 2 {
			want = append(want, second)
		}
		expectWind(t, "sunk", exampleNight(night), sunkLight(), want, api.OK)
		expectLongest(t, "sunk", exampleNight(night), sunkLight(), min(2, night), api.OK)
		expectWind(t, "wide", exampleNight(night), wide(), nil, api.OK)
	}
	still := exampleNight(200)
	still.Speed, still.Slow = span(12, 12), 1 // it stays where it is at the first second, and then goes on, slower and slower
	flicker := light("flicker", 1, 1, 1, 1)
	expectLongest(t, "flicker", still, flicker, 1, api.OK)
	var each []int
	for second := 1; second < 200; second++ {
		each = append(each, second)
	}
	expectWind(t, "flicker", still, flicker, each, api.OK)
}

// P5.7: a run can begin at any position, also one that Start has not, and have any speed; it is slower as it lasts, until it stops.
func TestLongestRuns(t *testing.T) {
	x := api.LpLamp{Drum: 100, Lit: spans(50, 59), Start: span(0, 3), Speed: span(2, 3), Slow: 200, Night: 100}
	expectLongest(t, "the flash is far from Start", x, light("a", 1, 4, 1, 200), 4, api.OK)
	expectLongest(t, "a flash of 5 seconds at the least speed", x, light("a", 1, 5, 1, 200), 100, api.OK)
	expectLongest(t, "eclipses of 45", x, light("a", 1, 5, 1, 44), 44, api.OK)
	expectLongest(t, "eclipses of 45", x, light("a", 1, 5, 1, 45), 100, api.OK)
	expectLongest(t, "flashes at the greatest speed of 3 at least", x, light("a", 3, 5, 1, 45), 100, api.OK)
	expectLongest(t, "flashes of 4 at least: it is seen to begin at the second 1, and to end at 4", x, light("a", 4, 5, 1, 45), 4, api.OK)
	expectLongest(t, "eclipses at the greatest speed of 30 at least", x, light("a", 1, 5, 30, 45), 100, api.OK)
	expectLongest(t, "eclipses of 31 at least: it is dark at 1 to 30", x, light("a", 1, 5, 31, 45), 31, api.OK)
	x.Speed = span(1, 1)
	x.Slow = 7
	expectLongest(t, "it stops", x, light("a", 1, 50, 1, 60), 50, api.OK)
	expectLongest(t, "it stops, dark", x, light("a", 1, 60, 1, 50), 50, api.OK)
	expectLongest(t, "it stops, for long enough", x, light("a", 1, 100, 1, 100), 100, api.OK)
	expectLongest(t, "it stops behind 7 seconds of a flash", x, light("a", 1, 100, 1, 99), 99, api.OK)
	x.Lit = nil
	expectLongest(t, "never lit", x, light("a", 1, 1, 1, 77), 77, api.OK)
	expectWind(t, "never lit", x, light("a", 1, 1, 1, 77), []int{77}, api.OK)
	x.Lit = spans(0, 99)
	expectLongest(t, "always lit", x, light("a", 1, 33, 1, 1), 33, api.OK)
	expectWind(t, "always lit", x, light("a", 1, 33, 1, 1), []int{33, 66, 99}, api.OK)
	x.Night = 99
	expectWind(t, "always lit, in a night that is shorter by a second", x, light("a", 1, 33, 1, 1), []int{33, 66}, api.OK)
}

// P5.7: lamps and lights at random, held against the definitions.
func TestLongestAtRandom(t *testing.T) {
	d := newDice(7)
	var kinds [3]int
	for i := range 1000 {
		x := d.lamp([]int{6, 12, 30}[i%3], 30)
		c := api.LpCase{Lamp: x}
		l := d.light("a", nightOf(c, d.truth(c)))
		if i%2 == 0 {
			l = d.wideLight(l)
		}
		n := longest(x, l)
		what := fmt.Sprint("random ", i)
		expectLongest(t, what, x, l, n, api.OK)
		var windings []int
		for second := n; second < x.Night; second += n {
			windings = append(windings, second)
		}
		expectWind(t, what, x, l, windings, api.OK)
		switch {
		case n == x.Night:
			kinds[0]++
		case n > 3:
			kinds[1]++
		default:
			kinds[2]++
		}
	}
	if slices.Min(kinds[:]) < 100 {
		t.Errorf("all night, more than 3 seconds, fewer: %v", kinds)
	}
}

// wideLight is a light whose spans are those of another one, and wider.
func (d dice) wideLight(l api.LpLight) api.LpLight {
	l.Phases = slices.Clone(l.Phases)
	for i := range l.Phases {
		for _, s := range []*api.Span{&l.Phases[i].Flash, &l.Phases[i].Dark} {
			s.Lo, s.Hi = max(1, s.Lo-d.from(0, 4)), min(200, s.Hi+d.from(0, 4))
		}
	}
	return l
}
