package lamp_test

import (
	"fmt"
	"slices"
	"testing"

	"nore/api"
	"nore/lamp"
)

// full is a case with as many spans, windings and sights as there can be, and with all numbers as great as can be.
func full() api.LpCase {
	c := api.LpCase{
		Lamp:     api.LpLamp{Drum: 120, Lit: spans(0, 9, 30, 39, 60, 69, 100, 119), Start: span(107, 119), Speed: span(36, 40), Slow: 200, Night: 200},
		Windings: []int{1, 199},
	}
	for i := range api.MaxLpSights {
		c.Sights = append(c.Sights, lit(192+i))
	}
	return c
}

// fullLights are as many lights as there can be.
func fullLights() (l []api.LpLight) {
	for i := range api.MaxLpLights {
		l = append(l, light("light-number-"+string(rune('a'+i)), 1, 200, 200, 200, 1, 1, 1, 200, 7, 8, 9, 10))
	}
	return l
}

// expectAll tells if a function does not return this error, which is not OK, or returns anything besides; those with a lamp alone only if they are asked too.
func expectAll(t *testing.T, what string, c api.LpCase, l []api.LpLight, x api.LpTruth, second int, e api.Errno, lamps bool) {
	t.Helper()
	expectShows(t, what, c, x, nil, e)
	expectRange(t, what, c, span(0, 0), nil, e)
	expectAt(t, what, c, second, 0, e)
	expectWrong(t, what, c, nil, e)
	expectLightErrors(t, what, c, l, x, e)
	expectWhich(t, what, c, l, nil, e)
	if lamps {
		expectLampErrors(t, what, c.Lamp, l, e)
	}
}

// expectLightErrors tells if Fails and Kept do not return this error with the first of some lights, or return anything besides.
func expectLightErrors(t *testing.T, what string, c api.LpCase, l []api.LpLight, x api.LpTruth, e api.Errno) {
	t.Helper()
	for _, one := range l[:min(1, len(l))] {
		expectFails(t, what, c, one, x, 0, e)
		expectKept(t, what, c, one, truth(0), 0, e)
	}
}

// expectLampErrors tells if Longest and Wind do not return this error with the first of some lights, or return anything besides.
func expectLampErrors(t *testing.T, what string, x api.LpLamp, l []api.LpLight, e api.Errno) {
	t.Helper()
	for _, one := range l[:min(1, len(l))] {
		expectLongest(t, what, x, one, 0, e)
		expectWind(t, what, x, one, nil, e)
	}
}

// expectCheck tells if Check does not return this, and if with an error the other functions do not return it too, whatever else is asked, and nothing besides.
func expectCheck(t *testing.T, what string, c api.LpCase, part, at int, e api.Errno) {
	t.Helper()
	if p, i, g := lamp.Check(c); p != part || i != at || g != e {
		t.Errorf("%s: Check = %d, %d, %d; it should be %d, %d, %d", what, p, i, g, part, at, e)
	}
	if e != api.OK {
		for _, second := range []int{0, -1, 200} {
			expectAll(t, what, c, fullLights(), truth(0, 1), second, e, part <= 3)
			expectAll(t, what, c, []api.LpLight{{}}, truth(-1), second, e, part <= 3)
			expectAll(t, what, c, nil, truth(-1), second, e, part <= 3)
		}
	}
	if part == 0 || part > 3 { // those with a lamp alone do not look at windings and sights
		expectWind(t, what, c.Lamp, wide(), nil, api.OK)
		expectLampErrors(t, what, c.Lamp, []api.LpLight{{}}, api.ErrForm)
	}
}

// expectLights tells if Lights does not return this, and if with an error the functions that ask of lights do not return it too, whatever else is asked, and nothing besides.
func expectLights(t *testing.T, what string, l []api.LpLight, at int, e api.Errno) {
	t.Helper()
	if i, g := lamp.Lights(l); i != at || g != e {
		t.Errorf("%s: Lights = %d, %d; it should be %d, %d", what, i, g, at, e)
	}
	for _, c := range []api.LpCase{example(), example(lit(3)), full()} { // with example(lit(3)) no truth agrees
		if e != api.OK {
			expectWhich(t, what, c, l, nil, e)
		} else if _, g := lamp.Which(c, l); g != e {
			t.Errorf("%s: Which has the error %d", what, g)
		}
	}
}

// expectLight tells if a light, as the only one, as the first one and as the last one, does not have this error, or if it is not that of the functions that ask of one light.
func expectLight(t *testing.T, what string, x api.LpLight, e api.Errno) {
	t.Helper()
	others := fullLights()[:5]
	at := 0
	if e != api.OK {
		at = 5
	}
	expectLights(t, what, []api.LpLight{x}, 0, e)
	expectLights(t, what, append([]api.LpLight{x}, others...), 0, e)
	expectLights(t, what, append(others, x), at, e)
	if e == api.OK {
		return
	}
	for _, c := range []api.LpCase{example(), example(lit(3)), full()} {
		for _, of := range []api.LpTruth{truth(0, 1), truth(-1), truth(-1, 1)} {
			expectLightErrors(t, what, c, []api.LpLight{x}, of, e)
			expectLampErrors(t, what, c.Lamp, []api.LpLight{x}, e)
		}
	}
}

// P5.1: cases without an error.
func TestCheckGood(t *testing.T) {
	expectCheck(t, "the example C", example(), 0, 0, api.OK)
	expectCheck(t, "the example D", exampleD(), 0, 0, api.OK)
	expectCheck(t, "full", full(), 0, 0, api.OK)
	least := api.LpCase{Lamp: api.LpLamp{Drum: 2, Speed: span(1, 1), Slow: 1, Night: 1}}
	expectCheck(t, "as little as can be", least, 0, 0, api.OK)
	least.Lamp.Lit, least.Windings, least.Sights = []api.Span{}, []int{}, []api.LpSight{}
	expectCheck(t, "empty lists", least, 0, 0, api.OK)
	least.Lamp.Lit, least.Lamp.Start = spans(0, 1), span(1, 1)
	expectCheck(t, "all of the drum open", least, 0, 0, api.OK)
	c := full()
	c.Lamp.Lit, c.Windings = spans(0, 0, 1, 1, 2, 118, 119, 119), []int{198, 199}
	expectCheck(t, "spans and windings next to each other", c, 0, 0, api.OK)
	c.Sights = []api.LpSight{lit(199), dark(199), lit(0), lit(199), dark(0), lit(0), lit(0), dark(5)}
	expectCheck(t, "sights at the same second, and in any order", c, 0, 0, api.OK)
}

// P5.1: too many, and too few, of all that is counted.
func TestCheckCounts(t *testing.T) {
	for n := range 16 {
		expect := func(what string, c api.LpCase, most, part int) {
			t.Helper()
			if n <= most {
				expectCheck(t, fmt.Sprint(n, " ", what), c, 0, 0, api.OK)
			} else {
				expectCheck(t, fmt.Sprint(n, " ", what), c, part, 0, api.ErrLong)
			}
		}
		c := full()
		c.Lamp.Lit = nil
		for i := range n {
			c.Lamp.Lit = append(c.Lamp.Lit, span(2*i, 2*i))
		}
		expect("spans", c, 4, 1)
		c = full()
		c.Windings = nil
		for i := range n {
			c.Windings = append(c.Windings, i+1)
		}
		expect("windings", c, 2, 4)
		c = full()
		c.Sights = make([]api.LpSight, n)
		expect("sights", c, 8, 5)
		var l []api.LpLight
		for i := range n {
			l = append(l, light(string(rune('a'+i)), 1, 2, 3, 4))
		}
		phases := light("phases")
		phases.Phases = slices.Repeat(wide().Phases, n)
		if e := api.ErrLong; n >= 1 && n <= 6 {
			expectLights(t, fmt.Sprint(n, " lights"), l, 0, api.OK)
		} else {
			expectLights(t, fmt.Sprint(n, " lights"), l, 0, e)
		}
		if e := api.ErrLong; n >= 1 && n <= 3 {
			expectLight(t, fmt.Sprint(n, " phases"), phases, api.OK)
		} else {
			expectLight(t, fmt.Sprint(n, " phases"), phases, e)
		}
	}
	many := full()
	many.Sights = make([]api.LpSight, 1<<16)
	expectCheck(t, "very many sights", many, 5, 0, api.ErrLong)
	many.Windings = make([]int, 1<<16)
	expectCheck(t, "very many windings", many, 4, 0, api.ErrLong)
	many.Lamp.Lit = make([]api.Span, 1<<16)
	expectCheck(t, "very many spans", many, 1, 0, api.ErrLong)
	expectLights(t, "very many lights", make([]api.LpLight, 1<<16), 0, api.ErrLong)
	expectLight(t, "very many phases", api.LpLight{Name: "a", Phases: make([]api.LpPhase, 1<<16)}, api.ErrLong)
}

// P5.1, R5: both ends of each range, and numbers far beyond.
func TestCheckRanges(t *testing.T) {
	for i, f := range []struct {
		at       func(c *api.LpCase) *int
		lo, hi   int
		part, in int
	}{
		{func(c *api.LpCase) *int { return &c.Lamp.Drum }, 2, 120, 1, 0},
		{func(c *api.LpCase) *int { return &c.Lamp.Slow }, 1, 200, 1, 0},
		{func(c *api.LpCase) *int { return &c.Lamp.Night }, 1, 200, 1, 0},
		{func(c *api.LpCase) *int { return &c.Lamp.Lit[0].Lo }, 0, 9, 2, 0},
		{func(c *api.LpCase) *int { return &c.Lamp.Lit[3].Hi }, 100, 119, 2, 3},
		{func(c *api.LpCase) *int { return &c.Lamp.Start.Lo }, 107, 119, 3, 0},
		{func(c *api.LpCase) *int { return &c.Lamp.Start.Hi }, 107, 119, 3, 0},
		{func(c *api.LpCase) *int { return &c.Lamp.Speed.Lo }, 36, 40, 3, 0},
		{func(c *api.LpCase) *int { return &c.Lamp.Speed.Hi }, 36, 40, 3, 0},
		{func(c *api.LpCase) *int { return &c.Windings[0] }, 1, 198, 4, 0},
		{func(c *api.LpCase) *int { return &c.Windings[1] }, 2, 199, 4, 1},
		{func(c *api.LpCase) *int { return &c.Sights[0].Second }, 0, 199, 5, 0},
		{func(c *api.LpCase) *int { return &c.Sights[7].Second }, 0, 199, 5, 7},
	} {
		for _, n := range []int{f.lo, f.hi} {
			c := full()
			if f.part == 1 {
				c = api.LpCase{Lamp: api.LpLamp{Drum: 120, Speed: span(1, 1), Slow: 1, Night: 1}}
			}
			*f.at(&c) = n
			expectCheck(t, fmt.Sprint("number ", i, " ", n), c, 0, 0, api.OK)
		}
		for _, n := range append([]int{-1, 201}, far...) {
			c := full()
			*f.at(&c) = n
			expectCheck(t, fmt.Sprint("number ", i, " ", n), c, f.part, f.in, api.ErrRange)
		}
	}
	for i, f := range []struct {
		change   func(c *api.LpCase)
		part, at int
	}{
		{func(c *api.LpCase) { c.Lamp.Drum = 1 }, 1, 0},
		{func(c *api.LpCase) { c.Lamp.Drum = 0 }, 1, 0},
		{func(c *api.LpCase) { c.Lamp.Drum = 121 }, 1, 0},
		{func(c *api.LpCase) { c.Lamp.Slow = 0 }, 1, 0},
		{func(c *api.LpCase) { c.Lamp.Night = 0 }, 1, 0},
		{func(c *api.LpCase) { c.Lamp.Lit[3].Hi = 120 }, 2, 3},
		{func(c *api.LpCase) { c.Lamp.Drum = 119 }, 2, 3},
		{func(c *api.LpCase) { c.Lamp.Drum, c.Lamp.Lit = 119, nil }, 3, 0},
		{func(c *api.LpCase) { c.Lamp.Start.Hi = 120 }, 3, 0},
		{func(c *api.LpCase) { c.Lamp.Speed.Lo = 0 }, 3, 0},
		{func(c *api.LpCase) { c.Lamp.Speed.Hi = 41 }, 3, 0},
		{func(c *api.LpCase) { c.Windings[0] = 0 }, 4, 0},
		{func(c *api.LpCase) { c.Windings[1] = 0 }, 4, 1},
		{func(c *api.LpCase) { c.Windings[0] = 200 }, 4, 0},
		{func(c *api.LpCase) { c.Windings[1] = 200 }, 4, 1},
		{func(c *api.LpCase) { c.Lamp.Night = 199 }, 4, 1},
		{func(c *api.LpCase) { c.Lamp.Night, c.Windings = 1, []int{1} }, 4, 0},
		{func(c *api.LpCase) { c.Sights[4].Second = 200 }, 5, 4},
		{func(c *api.LpCase) { c.Lamp.Night, c.Windings = 199, nil }, 5, 7},
	} {
		c := full()
		f.change(&c)
		expectCheck(t, fmt.Sprint("change ", i), c, f.part, f.at, api.ErrRange)
	}
}

// P5.1: spans that are none, or too wide, or not above the ones before; windings that are not above the ones before.
func TestCheckOrder(t *testing.T) {
	litAs := func(n ...int) func(c *api.LpCase) { return func(c *api.LpCase) { c.Lamp.Lit = spans(n...) } }
	startAs := func(lo, hi int) func(c *api.LpCase) { return func(c *api.LpCase) { c.Lamp.Start = span(lo, hi) } }
	speedAs := func(lo, hi int) func(c *api.LpCase) { return func(c *api.LpCase) { c.Lamp.Speed = span(lo, hi) } }
	wound := func(n ...int) func(c *api.LpCase) { return func(c *api.LpCase) { c.Windings = n } }
	for i, f := range []struct {
		change   func(c *api.LpCase)
		part, at int
		e        api.Errno
	}{
		{litAs(5, 4), 2, 0, api.ErrArg},
		{litAs(119, 0), 2, 0, api.ErrArg},
		{litAs(1, 0), 2, 0, api.ErrArg},
		{litAs(0, 0), 0, 0, api.OK},
		{litAs(0, 5, 5, 9), 2, 1, api.ErrArg},
		{litAs(0, 5, 4, 9), 2, 1, api.ErrArg},
		{litAs(0, 5, 6, 9), 0, 0, api.OK},
		{litAs(6, 9, 0, 5), 2, 1, api.ErrArg},
		{litAs(0, 0, 0, 0), 2, 1, api.ErrArg},
		{litAs(0, 5, 9, 8), 2, 1, api.ErrArg},
		{litAs(0, 5, 10, 12, 6, 8), 2, 2, api.ErrArg},
		{litAs(0, 5, 10, 12, 13, 12, 120, 119), 2, 2, api.ErrArg},
		{litAs(0, 5, 10, 12, 12, 12, 13, 13), 2, 2, api.ErrArg},
		{litAs(0, 5, 10, 12, 13, 13, 13, 13), 2, 3, api.ErrArg},
		{litAs(5, 4, 120, 120), 2, 0, api.ErrArg},
		{litAs(120, 119, 5, 4), 2, 0, api.ErrRange},
		{litAs(0, 5, 5, 120), 2, 1, api.ErrRange},
		{litAs(0, 5, -1, 9), 2, 1, api.ErrRange},
		{litAs(0, 5, 9, -1), 2, 1, api.ErrRange},
		{startAs(5, 4), 3, 0, api.ErrArg},
		{startAs(119, 0), 3, 0, api.ErrArg},
		{startAs(0, 12), 0, 0, api.OK},
		{startAs(0, 13), 3, 0, api.ErrArg},
		{startAs(50, 62), 0, 0, api.OK},
		{startAs(50, 63), 3, 0, api.ErrArg},
		{startAs(0, 119), 3, 0, api.ErrArg},
		{startAs(0, 0), 0, 0, api.OK},
		{speedAs(5, 4), 3, 0, api.ErrArg},
		{speedAs(40, 1), 3, 0, api.ErrArg},
		{speedAs(1, 5), 0, 0, api.OK},
		{speedAs(1, 6), 3, 0, api.ErrArg},
		{speedAs(10, 14), 0, 0, api.OK},
		{speedAs(10, 15), 3, 0, api.ErrArg},
		{speedAs(1, 40), 3, 0, api.ErrArg},
		{speedAs(1, 1), 0, 0, api.OK},
		{wound(1, 1), 4, 1, api.ErrArg},
		{wound(2, 1), 4, 1, api.ErrArg},
		{wound(199, 198), 4, 1, api.ErrArg},
		{wound(199, 199), 4, 1, api.ErrArg},
		{wound(1, 2), 0, 0, api.OK},
		{wound(5, 0), 4, 1, api.ErrRange},
		{wound(5, -1), 4, 1, api.ErrRange},
		{wound(200, 5), 4, 0, api.ErrRange},
		{wound(0, 0), 4, 0, api.ErrRange},
		{wound(199), 0, 0, api.OK},
	} {
		c := full()
		f.change(&c)
		expectCheck(t, fmt.Sprint("order ", i), c, f.part, f.at, f.e)
	}
}

// breach is a change to a case, and what Check returns of it.
type breach struct {
	change   func(c *api.LpCase)
	part, at int
	e        api.Errno
}

// breaches are in the order in which errors come; each one leaves those of other ones as they are.
func breaches() []breach {
	return []breach{
		{func(c *api.LpCase) { c.Lamp.Slow = 0 }, 1, 0, api.ErrRange},
		{func(c *api.LpCase) { c.Lamp.Lit = append(c.Lamp.Lit, span(119, 119)) }, 1, 0, api.ErrLong},
		{func(c *api.LpCase) { c.Lamp.Lit[1].Lo = -1 }, 2, 1, api.ErrRange},
		{func(c *api.LpCase) { c.Lamp.Lit[1].Hi = 29 }, 2, 1, api.ErrArg},
		{func(c *api.LpCase) { c.Lamp.Lit[2].Hi = 1 << 40 }, 2, 2, api.ErrRange},
		{func(c *api.LpCase) { c.Lamp.Lit[3].Lo = 50 }, 2, 3, api.ErrArg},
		{func(c *api.LpCase) { c.Lamp.Start.Hi = 120 }, 3, 0, api.ErrRange},
		{func(c *api.LpCase) { c.Lamp.Speed.Lo = 0 }, 3, 0, api.ErrRange},
		{func(c *api.LpCase) { c.Lamp.Start.Lo = 106 }, 3, 0, api.ErrArg},
		{func(c *api.LpCase) { c.Lamp.Speed.Hi = 35 }, 3, 0, api.ErrArg},
		{func(c *api.LpCase) { c.Windings = append(c.Windings, 5) }, 4, 0, api.ErrLong},
		{func(c *api.LpCase) { c.Windings[0] = 200 }, 4, 0, api.ErrRange},
		{func(c *api.LpCase) { c.Windings[1] = 1 }, 4, 1, api.ErrArg},
		{func(c *api.LpCase) { c.Sights = append(c.Sights, lit(0)) }, 5, 0, api.ErrLong},
		{func(c *api.LpCase) { c.Sights[2].Second = -1 }, 5, 2, api.ErrRange},
		{func(c *api.LpCase) { c.Sights[3].Second = 200 }, 5, 3, api.ErrRange},
	}
}

// P1, P5.1, R1: of two errors the one named first is returned.
func TestCheckPairs(t *testing.T) {
	all := breaches()
	for i, a := range all {
		c := full()
		a.change(&c)
		expectCheck(t, fmt.Sprint("breach ", i), c, a.part, a.at, a.e)
		for k, b := range all[i+1:] {
			c := full()
			b.change(&c)
			a.change(&c)
			what := fmt.Sprint("breaches ", i, " and ", i+1+k)
			if a.part == b.part && a.at == b.at && a.e == api.ErrArg || c.Windings[0] == 200 && a.part == 4 {
				continue // one of these undoes the other one
			}
			expectCheck(t, what, c, a.part, a.at, a.e)
		}
	}
}

// P5.1: names that are none, and names that are there already.
func TestLightsNames(t *testing.T) {
	for _, s := range []string{"", "-", "a-", "-a", "a--b", "A", "light a", "light1", "abcdefghijklmno", "\u0161"} {
		x := wide()
		x.Name = s
		expectLight(t, fmt.Sprintf("name %q", s), x, api.ErrForm)
		x.Phases = nil
		expectLight(t, fmt.Sprintf("name %q, and no phase", s), x, api.ErrForm)
	}
	for i := range api.MaxLpLights {
		for k := range i {
			l := fullLights()
			l[i].Name = l[k].Name
			expectLights(t, fmt.Sprint("name twice ", k, " ", i), l, i, api.ErrTwice)
			l[i].Phases = nil
			expectLights(t, fmt.Sprint("name twice ", k, " ", i, ", and no phase"), l, i, api.ErrTwice)
		}
	}
	l := fullLights()
	l[0].Name, l[5].Name = "abcdefghijklmn", "z"
	expectLights(t, "a long name and a short one", l, 0, api.OK)
	expectLight(t, "the example nore", noreLight(), api.OK)
	expectLight(t, "the example sunk", sunkLight(), api.OK)
	expectLight(t, "wide", wide(), api.OK)
}

// P5.1, R5: both ends of each span, in each phase, numbers far beyond, and spans that are none.
func TestLightsSpans(t *testing.T) {
	for phase := range 3 {
		for i, of := range []func(p *api.LpPhase) *api.Span{
			func(p *api.LpPhase) *api.Span { return &p.Flash },
			func(p *api.LpPhase) *api.Span { return &p.Dark },
		} {
			expect := func(lo, hi int, e api.Errno) {
				t.Helper()
				x := light("x", 1, 2, 3, 4, 5, 6, 7, 8, 9, 10, 11, 12)
				*of(&x.Phases[phase]) = span(lo, hi)
				what := fmt.Sprint("phase ", phase, ", span ", i, " ", lo, " to ", hi)
				expectLight(t, what, x, e)
				if e == api.ErrRange {
					x.Phases[(phase+1)%3].Flash, x.Phases[(phase+2)%3].Dark = span(6, 5), span(2, 1)
					expectLight(t, what+", and others that are none", x, e)
				}
			}
			expect(1, 200, api.OK)
			expect(1, 1, api.OK)
			expect(200, 200, api.OK)
			expect(2, 1, api.ErrArg)
			expect(200, 199, api.ErrArg)
			expect(200, 1, api.ErrArg)
			for _, n := range append([]int{0, -1, 201}, far...) {
				expect(n, 5, api.ErrRange)
				expect(5, n, api.ErrRange)
				expect(n, n, api.ErrRange)
			}
		}
	}
}

// P5.1, R1: the first light with an error decides, whatever the later ones have.
func TestLightsFirst(t *testing.T) {
	bad := []struct {
		x api.LpLight
		e api.Errno
	}{
		{light("Bad", 1, 2, 3, 4), api.ErrForm},
		{light("light-number-a", 1, 2, 3, 4), api.ErrTwice},
		{light("bad"), api.ErrLong},
		{light("bad", 0, 1, 2, 3), api.ErrRange},
		{light("bad", 2, 1, 2, 3), api.ErrArg},
	}
	for i, a := range bad {
		for k, b := range bad {
			l := fullLights()
			l[2], l[4] = a.x, b.x
			expectLights(t, fmt.Sprint("lights ", i, " and ", k), l, 2, a.e)
			l[2], l[4] = wide(), b.x
			expectLights(t, fmt.Sprint("light ", k), l, 4, b.e)
		}
	}
	expectLights(t, "too many, with errors", append(fullLights(), light("Bad")), 0, api.ErrLong)
}

// P1: a truth with an error is one with too few or too many Speeds, first, and then one whose Start or Speeds are out of their spans; the case and the light come before it.
func TestTruthErrors(t *testing.T) {
	c := full()
	c.Windings, c.Sights = []int{50, 100}, nil
	for i, f := range []struct {
		x api.LpTruth
		e api.Errno
	}{
		{truth(107, 36, 40, 38), api.OK},
		{truth(119, 40, 40, 40), api.OK},
		{truth(107), api.ErrLong},
		{truth(107, 36), api.ErrLong},
		{truth(107, 36, 40), api.ErrLong},
		{truth(107, 36, 40, 38, 38), api.ErrLong},
		{truth(106, 36, 40), api.ErrLong},
		{truth(107, 35, 40, 1<<40, 0), api.ErrLong},
		{truth(106, 36, 40, 38), api.ErrRange},
		{truth(120, 36, 40, 38), api.ErrRange},
		{truth(107, 35, 40, 38), api.ErrRange},
		{truth(107, 36, 41, 38), api.ErrRange},
		{truth(107, 36, 40, 35), api.ErrRange},
		{truth(107, 36, 40, 41), api.ErrRange},
		{truth(107, 36, 40, 0), api.ErrRange},
	} {
		what := fmt.Sprint("truth ", i)
		expectTruth(t, what, c, f.x, f.e)
		if f.e != api.OK {
			continue
		}
		for _, n := range append([]int{106, 120, -1}, far...) {
			x := f.x
			x.Start = n
			expectTruth(t, what, c, x, api.ErrRange)
		}
		for run := range 3 {
			for _, n := range append([]int{35, 41, -1}, far...) {
				x := truth(f.x.Start, f.x.Speeds...)
				x.Speeds = slices.Clone(x.Speeds)
				x.Speeds[run] = n
				expectTruth(t, what, c, x, api.ErrRange)
			}
		}
	}
	c.Windings = nil
	expectTruth(t, "no windings", c, truth(107, 36), api.OK)
	expectTruth(t, "no windings, no speeds", c, truth(107), api.ErrLong)
	expectTruth(t, "no windings, many speeds", c, api.LpTruth{Start: 107, Speeds: slices.Repeat([]int{36}, 1<<16)}, api.ErrLong)
}

// expectTruth tells if a truth does not have this error.
func expectTruth(t *testing.T, what string, c api.LpCase, x api.LpTruth, e api.Errno) {
	t.Helper()
	if e == api.OK {
		if _, g := lamp.Shows(c, x); g != e {
			t.Errorf("%s: Shows of %v has the error %d", what, x, g)
		}
		expectFails(t, what, c, wide(), x, -1, e)
		return
	}
	expectShows(t, what, c, x, nil, e)
	expectFails(t, what, c, wide(), x, 0, e)
	expectFails(t, what+", no light", c, light("No"), x, 0, api.ErrForm)
	c.Sights = slices.Repeat([]api.LpSight{lit(0)}, 9)
	expectShows(t, what+", no case", c, x, nil, api.ErrLong)
	expectFails(t, what+", no case, no light", c, light("No"), x, 0, api.ErrLong)
}

// P5.3: At returns ErrRange ahead of ErrDown, and behind the error of the case.
func TestSecondErrors(t *testing.T) {
	for _, second := range append([]int{-1, 24, 25, 199, 200}, far...) {
		expectAt(t, "C", example(), second, 0, api.ErrRange)
		expectAt(t, "no truth agrees", example(lit(3)), second, 0, api.ErrRange)
		bad := example()
		bad.Lamp.Speed.Lo = 3
		expectAt(t, "no case", bad, second, 0, api.ErrArg)
	}
	expectAt(t, "the last second", example(lit(23)), 23, api.LpLit, api.OK)
	expectAt(t, "no truth agrees", example(lit(3)), 23, 0, api.ErrDown)
}
