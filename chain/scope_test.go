package chain_test

import (
	"fmt"
	"slices"
	"testing"

	"nore/api"
	"nore/chain"
)

// expectScopes tells if Scopes and Shortest do not return these; none are ErrDown.
func expectScopes(t *testing.T, what string, c api.CnCase, want ...api.Span) {
	t.Helper()
	least, e := 0, api.ErrDown
	if len(want) > 0 {
		least, e = want[0].Lo, api.OK
	}
	if l, g := chain.Scopes(c); !slices.Equal(l, want) || g != e {
		t.Errorf("%s: Scopes = %v, %d; it should be %v, %d", what, l, g, want, e)
	}
	if n, g := chain.Shortest(c); n != least || g != e {
		t.Errorf("%s: Shortest = %d, %d; it should be %d, %d", what, n, g, least, e)
	}
}

func expectRenew(t *testing.T, what string, c api.CnCase, want []int, turned bool, e api.Errno) {
	t.Helper()
	if l, x, g := chain.Renew(c); !slices.Equal(l, want) || x != turned || g != e {
		t.Errorf("%s: Renew = %v, %v, %d; it should be %v, %v, %d", what, l, x, g, want, turned, e)
	}
}

// asSpans are the spans of the numbers for which something is so.
func asSpans(is []bool) (l []api.Span) {
	for n := range is {
		if !is[n] {
			continue
		}
		if n > 0 && is[n-1] {
			l[len(l)-1].Hi = n
		} else {
			l = append(l, span(n, n))
		}
	}
	return l
}

// P3.5, P3.6: the examples.
func TestScopesExample(t *testing.T) {
	expectScopes(t, "C", example(), span(20, 20))
	expectRenew(t, "C", example(), nil, false, api.OK)
}

// P3.5: from one link to all of them, and what is missing between.
func TestScopes(t *testing.T) {
	expectScopes(t, "nothing pulls", calm(func(c *api.CnCase) {}), span(1, 6))
	expectScopes(t, "one link", plain(shot("a", 1, 0, span(1, 1), span(0, 0))), span(1, 1))
	expectScopes(t, "as many links as can be", func() api.CnCase {
		c := plain()
		for i := range 7 {
			c.Chain.Shots = append(c.Chain.Shots, shot(letters("shot", i), 40, 0, span(1, 1), span(0, 0)))
		}
		return c
	}(), span(1, 280))
	expectScopes(t, "never", changed(func(c *api.CnCase) { c.Chain.Hold = span(0, 12000) }))
	expectScopes(t, "just with one less than all", calm(func(c *api.CnCase) {
		c.Chain.Rows, c.Ship.Swell, c.Weathers[0].Swell = rows(41, 1000), 1, span(0, 1)
		c.Chain.Heavy, c.Chain.Shots[2].New = 200, span(4700, 4700) // which bears 1104
		c.Weathers[0].Depth = span(11, 11)
	}), span(5, 5))
	// With yaw it pulls more with each link: with the scope 30 it holds from 3 links to 6, with 90 from 9 to 17.
	yaw := changed(func(c *api.CnCase) {
		c.Ship, c.Weathers = api.CnShip{Wind: 100, Yaw: 20}, []api.CnWeather{weather(span(10, 10), span(0, 10), span(0, 0), span(0, 0))}
		c.Chain.Hold, c.Chain.Rows = span(225, 225), rows(30, 500, 90, 600)
	})
	expectScopes(t, "with yaw", yaw, span(3, 6), span(9, 17))
	// A shot that is worn parts as soon as it is out.
	worn := calm(func(c *api.CnCase) {
		c.Ship.Swell, c.Weathers[0].Swell, c.Chain.Shots[1].New = 100, span(1, 1), span(1, 1)
	})
	expectScopes(t, "the second shot parts", worn, span(2, 2))
	worn.Weathers = append(worn.Weathers, weather(span(30, 30), span(0, 0), span(0, 0), span(1, 1)))
	expectScopes(t, "the second shot parts, and it is deeper", worn)
	worn.Weathers[0], worn.Weathers[1] = worn.Weathers[1], worn.Weathers[0]
	expectScopes(t, "the weathers changed places", worn)
}

// weak is a chain of shots of one link each, gauged on the Day, in water in which three links have to be out. It pulls with 100 kilograms.
func weak(heavy int, thick ...int) api.CnCase {
	c := plain()
	for i, n := range thick {
		c.Chain.Shots = append(c.Chain.Shots, shot(letters("shot", i), 1, 0, span(4000, 4000), span(0, 8), 500, n))
	}
	c.Day, c.Chain.Heavy, c.Chain.Long, c.Chain.Hold, c.Chain.Rows = 500, heavy, 10, span(1000, 1000), rows(30, 1000)
	c.Ship.Swell, c.Weathers[0] = 50, weather(span(9, 9), span(0, 0), span(0, 0), span(2, 2))
	return c
}

// pulled is a case with another Swell of the ship.
func pulled(swell int, c api.CnCase) api.CnCase {
	c.Ship.Swell = swell
	return c
}

// P3.6: the fewest shots, of several the first ones; not turned rather than turned.
func TestRenew(t *testing.T) {
	// 1000 micrometres bear 50 kilograms, 1500 bear 112, 2000 bear 200, 2500 bear 312, and 4000, as thick as new ones are, 800.
	for i, f := range []struct {
		c      api.CnCase
		shots  []int
		turned bool
		e      api.Errno
	}{
		{weak(0, 4000, 4000, 4000), nil, false, api.OK},
		{weak(0, 1500, 1500, 1500), nil, false, api.OK},
		{weak(0, 1000, 1500, 1500), []int{0}, false, api.OK},
		{weak(0, 1500, 1000, 1500), []int{1}, false, api.OK},
		{weak(0, 1500, 1500, 1000), []int{2}, false, api.OK},
		{weak(0, 1000, 1500, 1000), []int{0, 2}, false, api.OK},
		{weak(0, 1000, 1000, 1000), []int{0, 1, 2}, false, api.OK},
		// Just three of four shots have to be out: turned, the other one is not.
		{weak(0, 1500, 1500, 1500, 1000), nil, false, api.OK},
		{weak(0, 1000, 1500, 1500, 1500), nil, true, api.OK},
		{weak(0, 1500, 1000, 1500, 1500), []int{1}, false, api.OK},
		{weak(0, 1000, 1500, 1500, 1000), []int{0}, false, api.OK},
		{weak(0, 1000, 1500, 1000, 1500), []int{2}, true, api.OK},
		{weak(0, 1500, 1000, 1500, 1000), []int{1}, false, api.OK},
		{weak(0, 1000, 1500, 1000, 1000), []int{0, 2}, false, api.OK},
		{weak(0, 1000, 1000, 1500, 1500), []int{1}, true, api.OK},
		{weak(0, 1500, 1500, 1000, 1000), []int{2}, false, api.OK},
		{weak(0, 1000, 1000, 1000, 1000), []int{0, 1, 2}, false, api.OK},
		{weak(0, 1000, 1000, 1000, 1500), []int{1, 2}, true, api.OK},
		// What is heavy needs shots near the ship that bear more: here 150, 200 and 250.
		{weak(50, 2000, 2000, 2500), nil, false, api.OK},
		{weak(50, 2500, 2000, 2000), nil, true, api.OK},
		{weak(50, 1500, 2000, 2500), []int{0}, false, api.OK},
		{weak(50, 2500, 2000, 1500), []int{2}, false, api.OK},
		{weak(50, 2000, 2500, 2000), []int{0}, true, api.OK}, // the shot 2 is enough, too, if it is not turned
		{weak(50, 2000, 2000, 2000), []int{0}, true, api.OK},
		{weak(33, 2000, 2000, 2000), nil, false, api.OK},
		{weak(34, 2000, 2000, 2000), []int{0}, true, api.OK},
		{weak(60, 2500, 2000, 2000), []int{1}, true, api.OK},
		{weak(60, 2000, 2000, 2500), []int{1}, false, api.OK},
		{weak(60, 2000, 2000, 2000), []int{0, 1}, true, api.OK},
		{weak(200, 2000, 2000, 2000), []int{0, 1, 2}, false, api.OK},
		{pulled(100, weak(200, 1500, 1500, 1500)), []int{0, 1, 2}, false, api.OK},
		{pulled(101, weak(200, 1500, 1500, 1500)), nil, false, api.ErrDown},
		// Too short, or dragging, whatever is replaced.
		{weak(0, 4000, 4000), nil, false, api.ErrDown},
		{changed(func(c *api.CnCase) { c.Chain.Hold = span(0, 0) }), nil, false, api.ErrDown},
	} {
		expectRenew(t, fmt.Sprint("renewal ", i), f.c, f.shots, f.turned, f.e)
		want, turned, ok := renewal(f.c)
		if !slices.Equal(want, f.shots) || turned != f.turned || ok != (f.e == api.OK) {
			t.Errorf("renewal %d: over all renewals %v, %v, %v", i, want, turned, ok)
		}
	}
}

// P3.6: a new shot is as thin as New can be, on the Day; its gaugings are gone, and it does not wear before.
func TestRenewedShot(t *testing.T) {
	c := calm(func(c *api.CnCase) {
		c.Chain.Shots = []api.CnShot{shot("a", 6, 0, span(2000, 9000), span(20, 20))}
		c.Day, c.Ship.Swell, c.Weathers[0].Swell = 500, 200, span(1, 1)
		c.Chain.Rows = rows(1, 1000)
	})
	expectScopes(t, "worn away", c)
	expectRenew(t, "worn away", c, []int{0}, false, api.OK)
	c.Ship.Swell = 201
	expectRenew(t, "new, and too thin", c, nil, false, api.ErrDown)
	c.Chain.Shots[0].Gauges = gauges(0, 9001)
	expectRenew(t, "contradictions come first", c, nil, false, api.ErrZero)
	c.Chain.Shots[0].New.Lo = 2010
	c.Chain.Shots[0].Gauges = gauges(500, 0)
	expectRenew(t, "what was gauged is gone", c, []int{0}, false, api.OK)
	// What was gauged when it was thick can be better than a new one.
	c.Ship.Swell = 300
	c.Chain.Shots[0].Wear, c.Chain.Shots[0].Gauges = span(0, 0), gauges(400, 2500)
	expectRenew(t, "gauged thick", c, nil, false, api.OK)
	c.Chain.Shots[0].Gauges = nil
	expectRenew(t, "not gauged", c, nil, false, api.ErrDown)
}

// dragging is a case in which it mostly depends on the yaw, and on the row, whether the chain holds.
func (d dice) dragging(c api.CnCase) api.CnCase {
	c.Ship.Yaw, c.Chain.Heavy, c.Weathers = 20, 0, c.Weathers[:1]
	for i := range c.Chain.Shots {
		c.Chain.Shots[i] = shot(letters("shot", i), d.from(4, 12), 0, span(60000, 60000), span(0, 0))
	}
	force := pull(c, worst(c, 0), 1)
	c.Chain.Rows = rows(d.from(5, 30), 600, d.from(40, 70), 600+d.from(30, 120), d.from(80, 120), 800)
	lo := min(200000, force*d.from(1050, 1300)/600+1)
	c.Chain.Hold = span(lo, lo)
	return c
}

// P3.5, P3.6: random cases against the definitions.
func TestScopesByDefinition(t *testing.T) {
	d := newDice(3)
	seen := map[string]int{}
	for i := range 1500 {
		c := d.holding(4, 3, 6)
		if i%4 == 0 {
			c = d.dragging(c)
		}
		want := asSpans(scopes(c))
		expectScopes(t, fmt.Sprint(c), c, want...)
		shots, turned, ok := renewal(c)
		e := api.OK
		if !ok {
			e = api.ErrDown
		}
		expectRenew(t, fmt.Sprint(c), c, shots, turned, e)
		seen[fmt.Sprint(min(len(want), 2), " spans")]++
		seen[fmt.Sprint(min(len(shots), 2), " shots ", turned, " ", e)]++
	}
	for _, what := range []string{"0 spans", "1 spans", "2 spans", "0 shots true 0", "1 shots false 0", "1 shots true 0", "2 shots false 0", "0 shots false 9"} {
		if seen[what] < 5 {
			t.Errorf("there are just %d cases with %s: %v", seen[what], what, seen)
		}
	}
}

// P5, P3.11: with the shortest scope, and in the spans of Scopes, the chain holds; with no other number of links out.
func TestScopesAndWhy(t *testing.T) {
	d := newDice(11)
	for range 1000 {
		c := d.holding(7, 6, 6)
		l, e := chain.Scopes(c)
		shortest, f := chain.Shortest(c)
		if e != f {
			t.Fatalf("Scopes of %v = error %d, Shortest %d", c, e, f)
		}
		first := 0
		for out := 1; out <= linksOf(c); out++ {
			why, _, _, g := chain.Why(c, out)
			in := slices.ContainsFunc(l, func(s api.Span) bool { return s.Lo <= out && out <= s.Hi })
			if g != api.OK || in != (why == api.CnHolds) {
				t.Fatalf("Scopes of %v = %v; Why with %d = %d, %d", c, l, out, why, g)
			}
			if in && first == 0 {
				first = out
			}
		}
		if shortest != first || e == api.OK && first == 0 {
			t.Fatalf("Shortest of %v = %d, %d; it should be %d", c, shortest, e, first)
		}
		for i := range l {
			if l[i].Lo > l[i].Hi || i > 0 && l[i].Lo <= l[i-1].Hi+1 {
				t.Fatalf("Scopes of %v = %v", c, l)
			}
		}
	}
}

// P5, P3.12: renewed so, the chain holds with some scope; with no renewal of fewer shots it does.
func TestRenewedHolds(t *testing.T) {
	d := newDice(12)
	some := 0
	for range 600 {
		c := d.holding(5, 3, 6)
		shots, turned, e := chain.Renew(c)
		if e == api.OK {
			if _, f := chain.Shortest(renewed(c, shots, turned)); f != api.OK {
				t.Fatalf("Renew of %v = %v, %v; then Shortest has the error %d", c, shots, turned, f)
			}
		}
		for set := range uint(1) << len(c.Chain.Shots) {
			l := picked(set, len(c.Chain.Shots))
			if e == api.OK && len(l) >= len(shots) {
				continue
			}
			some++
			for _, turn := range []bool{false, true} {
				if n, f := chain.Shortest(renewed(c, l, turn)); f != api.ErrDown {
					t.Fatalf("Renew of %v = %v, %v, %d; with %v, %v Shortest is %d, %d", c, shots, turned, e, l, turn, n, f)
				}
			}
		}
	}
	if some < 300 {
		t.Errorf("there are just %d renewals of fewer shots", some)
	}
}

// P3.14: turned twice nothing changes; whichever way the chain lies, as many shots are renewed.
func TestTurned(t *testing.T) {
	d := newDice(14)
	for range 600 {
		c := d.holding(5, 3, 6)
		back := renewed(renewed(c, nil, true), nil, true)
		if a, b := answers(c, 0, 0, 1), answers(back, 0, 0, 1); !slices.Equal(a, b) {
			t.Fatalf("%v: %v; turned twice %v", c, a, b)
		}
		shots, _, e := chain.Renew(c)
		turned, _, f := chain.Renew(renewed(c, nil, true))
		if len(shots) != len(turned) || e != f {
			t.Fatalf("Renew of %v = %v, %d; turned %v, %d", c, shots, e, turned, f)
		}
	}
}
