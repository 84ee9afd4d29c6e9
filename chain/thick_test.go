package chain_test

import (
	"fmt"
	"slices"
	"testing"

	"nore/api"
	"nore/chain"
)

// P3.2: the example.
func TestThickExample(t *testing.T) {
	expectThick(t, "low when new", example(), 0, 0, span(20300, 20700), api.OK)
	expectThick(t, "low", example(), 0, 100, span(20100, 20300), api.OK)
	expectThick(t, "low on the Day", example(), 0, 1000, span(16500, 18500), api.OK)
	expectThick(t, "high", example(), 1, 0, span(18000, 18000), api.OK)
	expectThick(t, "high on the Day", example(), 1, 1000, span(13000, 13000), api.OK)
	expectThick(t, "high in the end", example(), 1, 40000, span(0, 0), api.OK)
}

// P3.2: days from Set to the last one, also those before the Day, and behind it.
func TestThickDays(t *testing.T) {
	c := gauged(5, shot("a", 1, 10, span(100, 200), span(1, 2)))
	for day, want := range map[int]api.Span{10: span(100, 200), 11: span(98, 199), 60: span(0, 150), 109: span(0, 101), 110: span(0, 100), 209: span(0, 1), 210: span(0, 0), 1000: span(0, 0), 1001: span(0, 0), 40000: span(0, 0)} {
		expectThick(t, "days", c, 0, day, want, api.OK)
	}
	for _, day := range append([]int{-1, 0, 9, 40001}, far...) {
		expectThick(t, "no day", c, 0, day, span(0, 0), api.ErrRange)
		expectThick(t, "no day", torn(), 1, min(day, -1), span(0, 0), api.ErrRange)
		c := gauged(0, shot("a", 1, 10, span(100, 200), span(1, 2), 10, 99))
		expectThick(t, "no day, and gaugings that contradict", c, 0, day, span(0, 0), api.ErrRange)
	}
	expectThick(t, "as much as can be", gauged(2000, shot("a", 1, 0, span(60000, 60000), span(0, 20))), 0, 40000, span(0, 60000), api.OK)
	expectThick(t, "a later Set than the Day is an error of the case", gauged(0, shot("a", 1, 1001, span(1, 1), span(0, 0))), 0, 1001, span(0, 0), api.ErrArg)
}

// P3.2: gaugings at the ends of what agrees; also those of later days, and those of what is worn away.
func TestThickGaugings(t *testing.T) {
	for i, c := range []struct {
		off         int
		fresh, wear api.Span
		gauges      []int
		day         int
		want        api.Span
		e           api.Errno
	}{
		{5, span(100, 200), span(0, 0), []int{50, 95}, 50, span(100, 100), api.OK},
		{5, span(100, 200), span(0, 0), []int{50, 94}, 50, span(0, 0), api.ErrDown},
		{5, span(100, 200), span(0, 0), []int{50, 205}, 50, span(200, 200), api.OK},
		{5, span(100, 200), span(0, 0), []int{50, 206}, 50, span(0, 0), api.ErrDown},
		{0, span(100, 200), span(0, 0), []int{50, 150}, 10, span(150, 150), api.OK},
		{0, span(100, 200), span(0, 2), []int{110, 50}, 10, span(150, 150), api.OK},
		{0, span(50, 250), span(0, 2), []int{110, 50}, 10, span(50, 250), api.OK},
		{0, span(50, 250), span(0, 2), []int{110, 50}, 60, span(50, 150), api.OK},
		{0, span(50, 250), span(0, 2), []int{110, 50}, 110, span(50, 50), api.OK},
		{0, span(50, 250), span(0, 2), []int{110, 50}, 120, span(30, 50), api.OK},
		// Two gaugings tell how fast it wears.
		{2, span(100, 200), span(0, 20), []int{20, 150, 30, 130}, 30, span(128, 132), api.OK},
		{2, span(100, 200), span(0, 20), []int{20, 150, 30, 130}, 10, span(168, 172), api.OK},
		{2, span(100, 200), span(0, 20), []int{20, 150, 30, 126}, 10, span(168, 168), api.OK},
		{2, span(100, 200), span(0, 20), []int{20, 150, 30, 125}, 10, span(0, 0), api.ErrDown},
		{2, span(100, 200), span(0, 20), []int{20, 150, 30, 121}, 10, span(179, 182), api.OK},
		// What is worn away tells just that it was not thicker.
		{5, span(100, 300), span(2, 2), []int{110, 3}, 10, span(100, 208), api.OK},
		{5, span(100, 300), span(2, 2), []int{110, 5}, 10, span(100, 210), api.OK},
		{5, span(100, 300), span(2, 2), []int{110, 6}, 10, span(201, 211), api.OK},
		{0, span(100, 300), span(2, 2), []int{110, 0}, 10, span(100, 200), api.OK},
		{0, span(100, 300), span(2, 2), []int{110, 1}, 10, span(201, 201), api.OK},
		{0, span(100, 300), span(2, 2), []int{110, 0, 111, 0}, 10, span(100, 200), api.OK},
		{0, span(201, 300), span(2, 2), []int{110, 0}, 10, span(0, 0), api.ErrDown},
		// Gaugings of the day of Set, and twice on the same day.
		{3, span(100, 200), span(1, 1), []int{10, 120, 10, 126}, 10, span(123, 123), api.OK},
		{3, span(100, 200), span(1, 1), []int{10, 120, 10, 127}, 10, span(0, 0), api.ErrDown},
		// Each agrees with some truth, but not all with one.
		{0, span(100, 200), span(1, 2), []int{20, 110, 30, 99}, 10, span(0, 0), api.ErrDown},
		{0, span(100, 200), span(1, 2), []int{20, 110, 30, 100}, 10, span(120, 120), api.OK},
		{0, span(100, 200), span(1, 2), []int{20, 110, 30, 90}, 10, span(130, 130), api.OK},
		{0, span(100, 200), span(1, 2), []int{20, 110, 30, 89}, 10, span(0, 0), api.ErrDown},
		// A later gauging tells of the days before it, and an earlier one of those behind it.
		{0, span(100, 200), span(0, 5), []int{30, 100}, 20, span(100, 150), api.OK},
		{0, span(100, 200), span(0, 5), []int{30, 100}, 40, span(50, 100), api.OK},
		// As much as can be.
		{2000, span(1, 60000), span(0, 20), []int{40000, 60000}, 40000, span(58000, 60000), api.OK},
		{2000, span(1, 60000), span(0, 20), []int{40000, 0}, 40000, span(0, 2000), api.OK},
		{2000, span(1, 60000), span(0, 20), []int{40000, 0}, 10, span(1, 60000), api.OK},
	} {
		what := fmt.Sprint("gaugings ", i)
		x := gauged(c.off, shot("a", 1, 10, c.fresh, c.wear, c.gauges...))
		expectThick(t, what, x, 0, c.day, c.want, c.e)
		if c.e != api.OK {
			continue
		}
		if can, ok := thicknesses(x.Chain.Shots[0], c.off, c.day); !ok || can != c.want {
			t.Errorf("%s: over all truths %v, %v", what, can, ok)
		}
		expectDoubts(t, what, x, 0, nil, api.OK)
	}
}

// P3.2: only the gaugings of the shot that is asked of count.
func TestThickOfOneShot(t *testing.T) {
	expectThick(t, "the torn one", torn(), 1, 1000, span(0, 0), api.ErrDown)
	expectThick(t, "the other one", torn(), 0, 1000, span(16500, 18500), api.OK)
	expectDoubts(t, "the torn one", torn(), 1, []int{0}, api.OK)
	expectDoubts(t, "the other one", torn(), 0, nil, api.OK)
}

// P3.2: the example, and of several doubts the first ones.
func TestDoubts(t *testing.T) {
	expectDoubts(t, "low", example(), 0, nil, api.OK)
	expectDoubts(t, "low, gauged again", changed(func(c *api.CnCase) { c.Chain.Shots[0].Gauges = gauges(100, 20200, 200, 18000) }), 0, []int{1}, api.OK)
	expectDoubts(t, "high, not gauged", example(), 1, nil, api.OK)
	still := func(l ...int) api.CnCase { return gauged(0, shot("a", 1, 10, span(100, 200), span(0, 0), l...)) }
	for i, c := range []struct {
		c    api.CnCase
		want []int
	}{
		{still(), nil},
		{still(20, 150), nil},
		{still(20, 99), []int{0}},
		{still(20, 150, 30, 150, 40, 150), nil},
		{still(20, 150, 30, 151), []int{0}},
		{still(20, 150, 30, 151, 40, 151), []int{0}},
		{still(20, 150, 30, 151, 40, 150), []int{1}},
		{still(20, 150, 30, 150, 40, 151), []int{2}},
		{still(20, 150, 30, 151, 40, 152), []int{0, 1}},
		{still(20, 99, 30, 150, 40, 201), []int{0, 2}},
		{still(20, 99, 30, 99, 40, 99), []int{0, 1, 2}},
		{still(20, 150, 30, 151, 40, 150, 50, 151), []int{0, 2}},
		{still(20, 1, 30, 2, 40, 3, 50, 4, 60, 5, 70, 6), []int{0, 1, 2, 3, 4, 5}},
		{still(20, 101, 30, 102, 40, 103, 50, 104, 60, 105, 70, 106), []int{0, 1, 2, 3, 4}},
		{still(20, 101, 30, 101, 40, 103, 50, 104, 60, 105, 70, 106), []int{2, 3, 4, 5}},
		{still(20, 101, 30, 102, 40, 101, 50, 102, 60, 101, 70, 102), []int{0, 2, 4}},
		// It wears by 1 a day, and the gauge is off by at most 1.
		{gauged(1, shot("a", 1, 10, span(100, 200), span(1, 1), 20, 150, 30, 140, 40, 130, 50, 110)), []int{3}},
		{gauged(1, shot("a", 1, 10, span(100, 200), span(1, 1), 20, 150, 30, 142)), nil},
		{gauged(1, shot("a", 1, 10, span(100, 200), span(1, 1), 20, 150, 30, 143)), []int{0}},
	} {
		expectDoubts(t, fmt.Sprint("doubts ", i), c.c, 0, c.want, api.OK)
		if len(c.want) > 0 {
			expectThick(t, fmt.Sprint("doubts ", i), c.c, 0, 10, span(0, 0), api.ErrDown)
		}
	}
}

// P3.3: the example, and what is rounded down.
func TestBears(t *testing.T) {
	for i, want := range spans(13612, 17112, 8450, 8450) {
		if s, e := chain.Bears(example(), i); s != want || e != api.OK {
			t.Errorf("Bears of %d = %v, %d; it should be %v", i, s, e, want)
		}
	}
	for thick, want := range map[int]int{1: 0, 141: 0, 142: 1, 199: 1, 200: 2, 19999: 19998, 20000: 20000, 20001: 20002, 60000: 180000} {
		c := plain(shot("a", 1, 0, span(1, 60000), span(0, 0)), shot("b", 1, 0, span(thick, thick), span(0, 0)))
		if s, e := chain.Bears(c, 1); s != span(want, want) || e != api.OK {
			t.Errorf("Bears of %d micrometres = %v, %d; it should be %d", thick, s, e, want)
		}
		if s, e := chain.Bears(c, 0); s != span(0, 180000) || e != api.OK {
			t.Errorf("Bears of any = %v, %d", s, e)
		}
	}
	if s, e := chain.Bears(plain(shot("a", 1, 0, span(1, 60000), span(20, 20))), 0); s != span(0, 0) || e != api.OK {
		t.Errorf("Bears of what is worn away = %v, %d", s, e)
	}
}

// P3.2, P3.3: random shots against all their truths.
func TestThickByTruths(t *testing.T) {
	d := newDice(1)
	for i := range 1500 {
		c := gauged(d.from(0, 12), d.gauge(d.shot("a", []int{3, 40, 150, 300}[i%4]), d.from(0, 6), 12, 20))
		s := c.Chain.Shots[0]
		for _, day := range []int{s.Set, s.Set + d.from(0, 200), 1000, 40000} {
			want, ok := thicknesses(s, c.Chain.Err, day)
			e := api.OK
			if !ok {
				e = api.ErrDown
			}
			expectThick(t, fmt.Sprint(c), c, 0, day, want, e)
		}
		expectDoubts(t, fmt.Sprint(c), c, 0, doubts(s, c.Chain.Err), api.OK)
		c.Day = s.Set + d.from(0, 40)
		c.Chain.Shots = c.Chain.Shots[:1]
		want, ok := thicknesses(s, c.Chain.Err, c.Day)
		want, e := span(want.Lo*want.Lo/20000, want.Hi*want.Hi/20000), api.OK
		if !ok {
			e = api.ErrZero
		}
		if b, g := chain.Bears(c, 0); b != want || g != e {
			t.Errorf("Bears of %v = %v, %d; it should be %v, %d", c, b, g, want, e)
		}
	}
}

// P2, P3.7: gaugings of any truth do not contradict each other, and the thickness on each day is among what is told.
func TestGaugingsOfATruth(t *testing.T) {
	d := newDice(7)
	for range 600 {
		off := d.from(0, 2000)
		s := shot("a", 1, d.from(0, 900), d.span(1, 60000, 60000), d.span(0, 20, 20))
		fresh, wear := d.from(s.New.Lo, s.New.Hi), d.from(s.Wear.Lo, s.Wear.Hi)
		var days []int
		for range d.from(0, 6) {
			days = append(days, d.from(s.Set, []int{1000, 5000, 40000}[d.IntN(3)]))
		}
		slices.Sort(days)
		for _, day := range days {
			shown := min(max(0, thickness(s, fresh, wear, day)+d.from(-off, off)), 60000)
			s.Gauges = append(s.Gauges, api.CnGauge{Day: day, Shown: shown})
		}
		c := gauged(off, s)
		expectDoubts(t, fmt.Sprint(c), c, 0, nil, api.OK)
		for _, day := range append(days, s.Set, 40000, d.from(s.Set, 40000), d.from(s.Set, 1000)) {
			n := thickness(s, fresh, wear, day)
			if can, e := chain.Thick(c, 0, day); e != api.OK || n < can.Lo || n > can.Hi {
				t.Fatalf("Thick of %v on %d = %v, %d, but with %d and %d it is %d", c, day, can, e, fresh, wear, n)
			}
		}
	}
}

// P4, P3.8: without the doubts nothing contradicts, without any fewer gaugings something does; they are no more than are wrong.
func TestDoubtsAreFewest(t *testing.T) {
	d := newDice(8)
	some := 0
	for range 800 {
		s := d.gauge(d.shot("a", 150), d.from(1, 6), 3, 0)
		wrong := picked(uint(d.from(0, 1<<len(s.Gauges)-1)), len(s.Gauges))
		for _, i := range wrong {
			s.Gauges[i].Shown = d.from(0, 300)
		}
		c := gauged(3, s)
		l, e := chain.Doubts(c, 0)
		if e != api.OK || len(l) > len(wrong) || !slices.IsSorted(l) {
			t.Fatalf("Doubts of %v = %v, %d, but just %v are wrong", c, l, e, wrong)
		}
		if len(l) > 0 {
			some++
		}
		for set := range uint(1) << len(s.Gauges) {
			left := picked(set, len(s.Gauges))
			c.Chain.Shots[0] = without(s, left)
			_, e := chain.Thick(c, 0, s.Set)
			if slices.Equal(left, l) && e != api.OK || len(left) < len(l) && e != api.ErrDown {
				t.Fatalf("Doubts of %v = %v, but without %v Thick has the error %d", s, l, left, e)
			}
		}
	}
	if some < 300 {
		t.Errorf("there are just %d shots with doubts", some)
	}
}

// P2, P3.9: a gauging more adds no thickness.
func TestOneMoreGauging(t *testing.T) {
	d := newDice(9)
	for range 800 {
		s := d.gauge(d.shot("a", []int{150, 1000}[d.IntN(2)]), 6, 8, 10)
		day := d.from(s.Set, 200)
		all := make([]api.Span, 0, 7)
		for n := range 7 {
			few := s
			few.Gauges = s.Gauges[:n]
			can, e := chain.Thick(gauged(8, few), 0, day)
			if e != api.OK {
				break
			}
			all = append(all, can)
			if n > 0 && (can.Lo < all[n-1].Lo || can.Hi > all[n-1].Hi) {
				t.Fatalf("Thick of %v on %d = %v, and without the last gauging %v", few, day, can, all[n-1])
			}
		}
	}
}
