package chain_test

import (
	"fmt"
	"testing"

	"nore/api"
	"nore/chain"
)

func expectPull(t *testing.T, what string, c api.CnCase, weather, out, want int) {
	t.Helper()
	if n, e := chain.Pull(c, weather, out); n != want || e != api.OK {
		t.Errorf("%s: Pull in %d with %d = %d, %d; it should be %d", what, weather, out, n, e, want)
	}
}

func expectWhy(t *testing.T, what string, c api.CnCase, out, why, weather, shot int) {
	t.Helper()
	if a, b, x, e := chain.Why(c, out); a != why || b != weather || x != shot || e != api.OK {
		t.Errorf("%s: Why with %d = %d, %d, %d, %d; it should be %d, %d, %d", what, out, a, b, x, e, why, weather, shot)
	}
}

func expectShow(t *testing.T, what string, c api.CnCase, weather, out int, want api.CnTruth, why, shot int) {
	t.Helper()
	if x, a, b, e := chain.Show(c, weather, out); !sameTruth(x, want) || a != why || b != shot || e != api.OK {
		t.Errorf("%s: Show of %d with %d = %v, %d, %d, %d; it should be %v, %d, %d", what, weather, out, x, a, b, e, want, why, shot)
	}
}

func expectIn(t *testing.T, what string, c api.CnCase, weather, out int, x api.CnTruth, why, shot int, e api.Errno) {
	t.Helper()
	if a, b, g := chain.In(c, weather, out, x); a != why || b != shot || g != e {
		t.Errorf("%s: In %d with %d, %v = %d, %d, %d; it should be %d, %d, %d", what, weather, out, x, a, b, g, why, shot, e)
	}
}

// P3.3, P3.4: the examples.
func TestHoldExample(t *testing.T) {
	expectPull(t, "A", example(), 0, 10, 4673)
	expectPull(t, "A", example(), 0, 18, 4851)
	expectPull(t, "B", example(), 1, 18, 709)
	expectWhy(t, "C", example(), 9, api.CnDrags, 0, 0)
	expectWhy(t, "C", example(), 10, api.CnDrags, 0, 0)
	expectWhy(t, "C", example(), 18, api.CnDrags, 0, 0)
	expectWhy(t, "C", example(), 20, api.CnHolds, 0, 0)
	expectShow(t, "A", example(), 0, 20, truth(30, 40, 20, 5, 9000, 16500, 13000), api.CnHolds, 0)
}

// calm is a chain with one weather and one truth of it: of three shots of two links, in water that is 10 deep, with nothing that pulls.
func calm(change func(c *api.CnCase)) api.CnCase {
	c := plain(shot("a", 2, 0, span(20000, 20000), span(0, 0)), shot("b", 2, 0, span(20000, 20000), span(0, 0)), shot("c", 2, 0, span(20000, 20000), span(0, 0)))
	c.Chain.Long, c.Chain.Rows, c.Chain.Hold = 10, rows(10, 1000), span(20000, 20000)
	c.Weathers = []api.CnWeather{weather(span(10, 10), span(0, 0), span(0, 0), span(0, 0))}
	change(&c)
	return c
}

// P3.3: what pulls, and what is rounded up, once for wind and current together, and once for all.
func TestPull(t *testing.T) {
	forces := func(wind, current, swell, yaw, w, c, s int) api.CnCase {
		return calm(func(x *api.CnCase) {
			x.Ship = api.CnShip{Wind: wind, Current: current, Swell: swell, Yaw: yaw}
			x.Weathers[0].Wind, x.Weathers[0].Current, x.Weathers[0].Swell = span(0, w), span(0, c), span(0, s)
		})
	}
	for i, f := range []struct {
		c         api.CnCase
		out, want int
	}{
		{forces(0, 0, 0, 20, 80, 80, 150), 6, 0},
		{forces(100, 0, 0, 0, 0, 0, 0), 6, 0},
		{forces(100, 0, 0, 0, 3, 80, 150), 6, 9},
		{forces(0, 100, 0, 0, 80, 3, 150), 6, 9},
		{forces(0, 0, 100, 0, 80, 80, 3), 6, 300},
		{forces(1, 0, 0, 0, 1, 0, 0), 1, 1},
		{forces(1, 0, 0, 0, 10, 0, 0), 1, 1},
		{forces(1, 0, 0, 0, 11, 0, 0), 1, 2},
		{forces(50, 50, 0, 0, 1, 1, 0), 1, 1},
		{forces(50, 51, 0, 0, 1, 1, 0), 1, 2},
		{forces(1, 1, 1, 0, 1, 1, 1), 1, 2},
		{forces(0, 0, 1, 0, 0, 0, 1), 6, 1},
		{forces(0, 0, 1, 1, 0, 0, 1), 1, 2},
		{forces(0, 0, 1000, 1, 0, 0, 1), 1, 1001},
		{forces(0, 0, 1000, 1, 0, 0, 1), 6, 1006},
		{forces(0, 0, 1001, 1, 0, 0, 1), 1, 1003},
		{forces(0, 0, 999, 1, 0, 0, 1), 1, 1000},
		{forces(0, 0, 500, 2, 0, 0, 1), 1, 501},
		{forces(10, 0, 0, 1, 1, 0, 0), 1, 2},
		{forces(10000, 10000, 10000, 20, 80, 80, 150), 6, 3113600},
	} {
		expectPull(t, fmt.Sprint("pull ", i), f.c, 0, f.out, f.want)
	}
	c := full()
	expectPull(t, "as much as can be", c, 5, 280, 18348000)
	expectPull(t, "with one link", c, 0, 1, 2835600)
	expectPull(t, "not in the worst truth, gaugings contradict", torn(), 1, 20, 715)
}

// P3.4: the row, by the depth with half the swell, rounded up, and whether the anchor breaks out.
func TestAnchor(t *testing.T) {
	deep := func(depth, swell int) api.CnCase {
		return calm(func(c *api.CnCase) {
			c.Chain.Rows, c.Chain.Hold = rows(10, 100, 20, 550, 30, 1000), span(1000, 1000)
			c.Ship.Swell = 10000
			c.Ship.Wind = 100
			c.Weathers[0].Depth, c.Weathers[0].Swell, c.Weathers[0].Wind = span(1, depth), span(0, swell), span(0, 0)
		})
	}
	// With no swell nothing pulls: it holds without a row, too.
	for out := 1; out <= 6; out++ {
		expectWhy(t, "nothing pulls", deep(1000, 0), out, api.CnHolds, 0, 0)
	}
	windy := func(depth, swell, wind int) api.CnCase {
		c := deep(depth, swell)
		c.Ship.Swell, c.Weathers[0].Wind = 0, span(0, wind)
		return c
	}
	for i, f := range []struct {
		c        api.CnCase
		out, why int
	}{
		// 2 links are 20 decimetres long; the scope is 20 in water that is 10 deep.
		{windy(10, 0, 23), 2, api.CnHolds},
		{windy(10, 0, 24), 2, api.CnDrags},
		{windy(10, 0, 10), 1, api.CnHolds},
		{windy(10, 0, 11), 1, api.CnDrags},
		{windy(10, 0, 31), 3, api.CnHolds},
		{windy(10, 0, 32), 3, api.CnDrags},
		{windy(10, 0, 31), 6, api.CnHolds},
		{windy(10, 0, 32), 6, api.CnDrags},
		// Deeper by one, even by half of one, which is rounded up.
		{windy(11, 0, 10), 2, api.CnHolds},
		{windy(11, 0, 11), 2, api.CnDrags},
		{windy(10, 1, 11), 2, api.CnDrags},
		{windy(10, 1, 10), 2, api.CnHolds},
		{windy(9, 1, 23), 2, api.CnHolds},
		{windy(9, 2, 23), 2, api.CnHolds},
		{windy(9, 3, 23), 2, api.CnDrags},
		{windy(8, 3, 23), 2, api.CnHolds},
		{windy(8, 4, 23), 2, api.CnHolds},
		{windy(8, 5, 23), 2, api.CnDrags},
		// No row at all.
		{windy(11, 0, 1), 1, api.CnDrags},
		{windy(11, 0, 0), 1, api.CnHolds},
		{windy(10, 1, 1), 1, api.CnDrags},
		{windy(60, 0, 10), 6, api.CnHolds},
		{windy(61, 0, 1), 6, api.CnDrags},
	} {
		expectWhy(t, fmt.Sprint("anchor ", i), f.c, f.out, f.why, 0, 0)
	}
	// What the anchor holds is not rounded: 1999 times 1 per mille are a bit less than 2.
	part := func(hold int) api.CnCase {
		return calm(func(c *api.CnCase) {
			c.Chain.Hold, c.Chain.Rows, c.Ship.Wind, c.Weathers[0].Wind = span(hold, 3000), rows(1, 1), 200, span(0, 1)
		})
	}
	expectWhy(t, "a bit less than 2", part(1999), 6, api.CnDrags, 0, 0)
	expectWhy(t, "just 2", part(2000), 6, api.CnHolds, 0, 0)
	expectWhy(t, "a bit more than 2", part(2001), 6, api.CnHolds, 0, 0)
}

// P3.4: which shot parts, if any; each has to bear what is below it, and only as far as links are out.
func TestParts(t *testing.T) {
	heavy := func(kilograms int, thick ...int) api.CnCase {
		return calm(func(c *api.CnCase) {
			c.Chain.Heavy, c.Ship.Swell, c.Weathers[0].Swell = kilograms, 100, span(0, 1)
			c.Chain.Rows = rows(1, 1000)
			for i, n := range thick {
				c.Chain.Shots[i].New = span(n, n)
			}
		})
	}
	// 2000 micrometres bear 200 kilograms, 2449 bear 299, 2450 bear 300; 100 are pulled.
	for i, f := range []struct {
		c              api.CnCase
		out, why, shot int
	}{
		{heavy(0, 1414, 1415, 1415), 6, api.CnParts, 0},
		{heavy(0, 1415, 1415, 1415), 6, api.CnHolds, 0},
		{heavy(50, 2000, 2450, 2829), 6, api.CnHolds, 0},
		{heavy(50, 1999, 2450, 2829), 6, api.CnParts, 0},
		{heavy(50, 2000, 2449, 2829), 6, api.CnParts, 1},
		{heavy(50, 2000, 2450, 2828), 6, api.CnParts, 2},
		{heavy(50, 1999, 2449, 2828), 6, api.CnParts, 0},
		{heavy(50, 2000, 2449, 2828), 6, api.CnParts, 1},
		{heavy(50, 9999, 9999, 1), 6, api.CnParts, 2},
		{heavy(50, 9999, 9999, 1), 5, api.CnParts, 2},
		// A shot that is not out parts not.
		{heavy(50, 9999, 9999, 1), 4, api.CnHolds, 0},
		{heavy(50, 9999, 1, 1), 4, api.CnParts, 1},
		{heavy(50, 9999, 1, 1), 3, api.CnParts, 1},
		{heavy(50, 9999, 1, 1), 2, api.CnHolds, 0},
		{heavy(50, 1, 1, 1), 1, api.CnParts, 0},
		// The links that are out below count, not those that are not, nor those of a shot above.
		{heavy(100, 2000, 2000, 2000), 1, api.CnHolds, 0},
		{heavy(101, 2000, 2000, 2000), 1, api.CnParts, 0},
		{heavy(100, 2000, 2000, 2000), 2, api.CnParts, 0},
		{heavy(50, 2000, 2236, 1), 3, api.CnParts, 1},
		{heavy(50, 2000, 2237, 1), 3, api.CnHolds, 0},
		{heavy(50, 2000, 2450, 2645), 5, api.CnParts, 2},
		{heavy(50, 2000, 2450, 2646), 5, api.CnHolds, 0},
	} {
		expectWhy(t, fmt.Sprint("parts ", i), f.c, f.out, f.why, 0, f.shot)
	}
	// If the anchor breaks out, no shot is named.
	c := heavy(50, 1, 1, 1)
	c.Chain.Hold = span(99, 200)
	expectWhy(t, "breaks out", c, 6, api.CnDrags, 0, 0)
	c.Chain.Hold = span(100, 200)
	expectWhy(t, "just holds", c, 6, api.CnParts, 0, 0)
}

// P3.4: the first weather, and what Show says of each one.
func TestWhyFirstWeather(t *testing.T) {
	c := calm(func(c *api.CnCase) {
		c.Ship.Wind = 100
		c.Chain.Hold = span(400, 500)
		c.Chain.Shots[1].New = span(1000, 2000)
		c.Weathers = nil
		for _, wind := range []int{3, 7, 21, 8, 22} {
			c.Weathers = append(c.Weathers, weather(span(1, 2), span(wind-1, wind), span(3, 4), span(0, 0)))
		}
	})
	// The second shot bears 50: it parts with a wind of 8; with a wind of 21 the anchor breaks out.
	expectWhy(t, "all out", c, 6, api.CnDrags, 2, 0)
	for i, f := range []struct{ wind, why, shot int }{{3, api.CnHolds, 0}, {7, api.CnHolds, 0}, {21, api.CnDrags, 0}, {8, api.CnParts, 1}, {22, api.CnDrags, 0}} {
		expectShow(t, "each weather", c, i, 6, truth(2, f.wind, 4, 0, 400, 20000, 1000, 20000), f.why, f.shot)
	}
	c.Weathers[1], c.Weathers[3] = c.Weathers[3], c.Weathers[1]
	expectWhy(t, "changed places", c, 6, api.CnParts, 1, 1)
	expectWhy(t, "changed places, only the first shot out", c, 2, api.CnDrags, 2, 0)
	c.Weathers = c.Weathers[:2]
	expectWhy(t, "two of them, only the first shot out", c, 2, api.CnHolds, 0, 0)
}

// P3.4: the numbers of a truth, at their ends and beyond.
func TestInRanges(t *testing.T) {
	c := example()
	low := truth(20, 20, 0, 0, 9000, 16500, 13000)
	high := truth(30, 40, 20, 5, 12000, 18500, 13000)
	expectIn(t, "the least", c, 0, 20, low, api.CnHolds, 0, api.OK)
	expectIn(t, "the greatest", c, 0, 20, high, api.CnHolds, 0, api.OK)
	expectIn(t, "a thickness between", c, 0, 20, truth(25, 30, 10, 2, 10000, 17777, 13000), api.CnHolds, 0, api.OK)
	for i, at := range []func(t *api.CnTruth) *int{
		func(t *api.CnTruth) *int { return &t.Depth },
		func(t *api.CnTruth) *int { return &t.Wind },
		func(t *api.CnTruth) *int { return &t.Current },
		func(t *api.CnTruth) *int { return &t.Swell },
		func(t *api.CnTruth) *int { return &t.Hold },
		func(t *api.CnTruth) *int { return &t.Thick[0] },
		func(t *api.CnTruth) *int { return &t.Thick[1] },
	} {
		for _, n := range append([]int{*at(&low) - 1, *at(&high) + 1}, far...) {
			x := truth(25, 30, 10, 2, 10000, 17777, 13000)
			*at(&x) = n
			expectIn(t, fmt.Sprint("number ", i), c, 0, 20, x, 0, 0, api.ErrRange)
			x.Thick = append(x.Thick, 13000)
			expectIn(t, fmt.Sprint("number ", i, " and too many"), c, 0, 20, x, 0, 0, api.ErrLong)
		}
		x := truth(25, 30, 10, 2, 10000, 17777, 13000)
		*at(&x) = *at(&low)
		expectIn(t, fmt.Sprint("the least number ", i), c, 0, 20, x, api.CnHolds, 0, api.OK)
		*at(&x) = *at(&high)
		expectIn(t, fmt.Sprint("the greatest number ", i), c, 0, 20, x, api.CnHolds, 0, api.OK)
	}
	for n := range 12 {
		if n == 2 {
			continue
		}
		x := low
		x.Thick = make([]int, n)
		expectIn(t, fmt.Sprint(n, " thicknesses"), c, 0, 20, x, 0, 0, api.ErrLong)
		x.Depth = -1
		expectIn(t, fmt.Sprint(n, " thicknesses and no depth"), c, 0, 20, x, 0, 0, api.ErrLong)
	}
	x := low
	x.Thick = make([]int, 1<<16)
	expectIn(t, "very many thicknesses", c, 0, 20, x, 0, 0, api.ErrLong)
	expectIn(t, "of the other weather", c, 1, 20, low, 0, 0, api.ErrRange)
	expectIn(t, "in the other weather", c, 1, 20, truth(20, 0, 0, 10, 9000, 16500, 13000), api.CnHolds, 0, api.OK)
}

// P3.4: a thickness between the least and the greatest counts, even if no truth of the shot has it.
func TestInBetween(t *testing.T) {
	c := calm(func(c *api.CnCase) {
		c.Chain.Shots = c.Chain.Shots[:1]
		c.Chain.Shots[0] = shot("a", 2, 0, span(5000, 5000), span(0, 1))
		c.Day, c.Ship.Swell, c.Weathers[0].Swell = 1000, 800, span(1, 1)
		c.Chain.Rows = rows(1, 1000)
	})
	for thick, why := range map[int]int{4000: api.CnHolds, 4001: api.CnHolds, 4999: api.CnHolds, 5000: api.CnHolds} {
		expectIn(t, "between", c, 0, 2, truth(10, 0, 0, 1, 20000, thick), why, 0, api.OK)
	}
	c.Ship.Swell = 1000
	for thick, why := range map[int]int{4000: api.CnParts, 4472: api.CnParts, 4473: api.CnHolds, 5000: api.CnHolds} {
		expectIn(t, "between", c, 0, 2, truth(10, 0, 0, 1, 20000, thick), why, 0, api.OK)
	}
	expectIn(t, "below", c, 0, 2, truth(10, 0, 0, 1, 20000, 3999), 0, 0, api.ErrRange)
	expectIn(t, "above", c, 0, 2, truth(10, 0, 0, 1, 20000, 5001), 0, 0, api.ErrRange)
}

// P3.3, P3.4: random cases against the definitions.
func TestHoldByDefinition(t *testing.T) {
	d := newDice(2)
	var seen [3]int
	for range 1500 {
		c := d.holding(4, 4, 6)
		all := linksOf(c)
		for range 5 {
			out := d.from(1, all)
			first, firstWeather, firstShot := api.CnHolds, 0, 0
			for i := range c.Weathers {
				x := worst(c, i)
				why, shot := whyNot(c, x, out)
				expectPull(t, fmt.Sprint(c), c, i, out, pull(c, x, out))
				expectShow(t, fmt.Sprint(c), c, i, out, x, why, shot)
				expectIn(t, fmt.Sprint(c), c, i, out, x, why, shot, api.OK)
				if first == api.CnHolds {
					first, firstWeather, firstShot = why, i, shot
				}
			}
			if first == api.CnHolds {
				firstWeather = 0
			}
			expectWhy(t, fmt.Sprint(c), c, out, first, firstWeather, firstShot)
			seen[first]++
			weather, x := d.truth(c)
			why, shot := whyNot(c, x, out)
			expectIn(t, fmt.Sprint(c), c, weather, out, x, why, shot, api.OK)
		}
	}
	for why, n := range seen {
		if n < 300 {
			t.Errorf("there are just %d cases of %d", n, why)
		}
	}
}

// truth is a weather, and a random truth of it.
func (d dice) truth(c api.CnCase) (int, api.CnTruth) {
	i := d.IntN(len(c.Weathers))
	w := c.Weathers[i]
	of := func(s api.Span) int { return d.from(s.Lo, s.Hi) }
	x := truth(of(w.Depth), of(w.Wind), of(w.Current), of(w.Swell), of(c.Chain.Hold))
	for _, s := range c.Chain.Shots {
		can, _ := thicknesses(s, c.Chain.Err, c.Day)
		x.Thick = append(x.Thick, of(can))
	}
	return i, x
}

// eachTruth calls a function with each truth of a weather, with the least, a middle and the greatest thickness of each shot.
func eachTruth(c api.CnCase, weather int, call func(api.CnTruth)) {
	w := c.Weathers[weather]
	var thick [][]int
	for _, s := range c.Chain.Shots {
		can, _ := thicknesses(s, c.Chain.Err, c.Day)
		thick = append(thick, []int{can.Lo, (can.Lo + can.Hi) / 2, can.Hi})
	}
	of := func(s api.Span, call func(n int)) {
		for n := s.Lo; n <= s.Hi; n++ {
			call(n)
		}
	}
	x := truth(0, 0, 0, 0, 0)
	var shots func(i int)
	shots = func(i int) {
		if i == len(thick) {
			call(x)
			return
		}
		for _, n := range thick[i] {
			x.Thick = append(x.Thick[:i], n)
			shots(i + 1)
		}
	}
	of(w.Depth, func(n int) {
		x.Depth = n
		of(w.Wind, func(n int) {
			x.Wind = n
			of(w.Current, func(n int) {
				x.Current = n
				of(w.Swell, func(n int) {
					x.Swell = n
					of(c.Chain.Hold, func(n int) {
						x.Hold = n
						shots(0)
					})
				})
			})
		})
	})
}

// P5, P3.10: a chain that holds does in each truth of all weathers; otherwise it does not in what Show tells, and does in each truth of the weathers before.
func TestHoldInEveryTruth(t *testing.T) {
	d := newDice(10)
	held := 0
	for range 150 {
		c := d.holding(2, 3, 2)
		out := d.from(1, linksOf(c))
		why, weather, shot, e := chain.Why(c, out)
		if e != api.OK {
			t.Fatalf("Why of %v = error %d", c, e)
		}
		holds := len(c.Weathers)
		if why != api.CnHolds {
			holds = weather
			x, a, b, e := chain.Show(c, weather, out)
			if a != why || b != shot || e != api.OK {
				t.Fatalf("Why of %v with %d = %d, %d, %d; Show is %d, %d, %d", c, out, why, weather, shot, a, b, e)
			}
			expectIn(t, fmt.Sprint(c), c, weather, out, x, why, shot, api.OK)
		}
		for i := range holds {
			held++
			eachTruth(c, i, func(x api.CnTruth) {
				expectIn(t, fmt.Sprint(c), c, i, out, x, api.CnHolds, 0, api.OK)
			})
		}
	}
	if held < 50 {
		t.Errorf("there are just %d weathers in which it holds", held)
	}
}

// P3.13: in calmer weather, or with a better hold, a chain that held does so still.
func TestCalmer(t *testing.T) {
	d := newDice(13)
	held := 0
	for range 2500 {
		c := d.holding(4, 2, 8)
		out := d.from(1, linksOf(c))
		if why, _, _, _ := chain.Why(c, out); why != api.CnHolds {
			continue
		}
		held++
		calmer := clone(c)
		for i := range calmer.Weathers {
			w := &calmer.Weathers[i]
			for _, s := range []*api.Span{&w.Depth, &w.Wind, &w.Current, &w.Swell} {
				s.Hi = d.from(s.Lo, s.Hi)
			}
		}
		calmer.Chain.Hold.Lo = d.from(c.Chain.Hold.Lo, c.Chain.Hold.Hi)
		expectWhy(t, fmt.Sprint("calmer than ", c), calmer, out, api.CnHolds, 0, 0)
	}
	if held < 400 {
		t.Errorf("there are just %d chains that hold", held)
	}
}
