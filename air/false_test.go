package air_test

import (
	"fmt"
	"slices"
	"testing"

	"nore/air"
	"nore/api"
)

// expectFalse tells if False does not return this.
func expectFalse(t *testing.T, what string, c scene, want []int, e api.Errno) {
	t.Helper()
	if l, g := air.False(c.s, c.n, c.l); !slices.Equal(l, want) || g != e {
		t.Errorf("%s: False of %v = %v, %d; it should be %v, %d", what, c, l, g, want, e)
	}
}

// P6.7: the example.
func TestFalseExample(t *testing.T) {
	expectFalse(t, "B, and not seen at 0, 10000", example(reportB(), dark(0, 10000)), []int{1}, api.OK)
}

// P6.7: reports that cannot be true, one by one, of the light, of the horn, and of both.
func TestFalseAlone(t *testing.T) {
	bad := []api.AiReport{dark(0, 10000), heard(9000, 0), saw(0, 20000), still(1, 0), dark(0, 0), still(0, 0), saw(30000, 30000), heard(-30000, -30000)}
	good := []api.AiReport{reportA(), reportH(), reportB(), still(4200, 1), saw(0, 0), heard(0, 0), dark(30000, 30000), still(-30000, -30000)}
	expectFalse(t, "none", example(), nil, api.OK)
	expectFalse(t, "all true", example(good...), nil, api.OK)
	expectFalse(t, "all false", example(bad...), []int{0, 1, 2, 3, 4, 5, 6, 7}, api.OK)
	for set := range uint(1) << 8 {
		c := example(slices.Clone(good)...)
		want := picked(set, 8)
		for _, i := range want {
			c.l[i] = bad[i]
		}
		expectFalse(t, fmt.Sprint(want), c, want, api.OK)
	}
}

// P6.7: reports that contradict each other: as few as can be, and of several lists the first one.
func TestFalseFewest(t *testing.T) {
	for _, f := range []struct {
		l    []api.AiReport
		want []int
	}{
		{[]api.AiReport{saw(0, 14000), dark(0, 13000)}, []int{0}},
		{[]api.AiReport{dark(0, 13000), saw(0, 14000)}, []int{0}},
		{[]api.AiReport{dark(0, 13000), saw(0, 14000), saw(0, 13500)}, []int{0}},
		{[]api.AiReport{saw(0, 14000), dark(0, 13000), dark(0, 12000)}, []int{0}},
		{[]api.AiReport{saw(0, 14000), saw(0, 13500), dark(0, 13000)}, []int{2}},
		{[]api.AiReport{saw(0, 14000), dark(0, 13000), saw(0, 13500), dark(0, 13100)}, []int{0, 2}},
		{[]api.AiReport{dark(0, 13000), saw(0, 14000), dark(0, 13100), saw(0, 13500)}, []int{0, 2}},
		{[]api.AiReport{dark(0, 13000), saw(0, 13050), dark(0, 13100), saw(0, 13500)}, []int{0, 2}},
		{[]api.AiReport{saw(0, 13050), dark(0, 13000), saw(0, 12000), dark(0, 13500)}, []int{0}},
		{[]api.AiReport{heard(0, 2800), still(0, 2500)}, []int{0}},
		{[]api.AiReport{still(3500, 0), heard(4000, 0)}, []int{0}},
		{[]api.AiReport{still(3500, 0), heard(4000, 0), heard(3600, 0)}, []int{0}},
		{[]api.AiReport{heard(4000, 0), still(3500, 0), still(3400, 0)}, []int{0}},
		{[]api.AiReport{heard(4000, 0), heard(3600, 0), still(3500, 0)}, []int{2}},
		{[]api.AiReport{still(3500, 0), saw(0, 14000), heard(4000, 0), dark(0, 13000)}, []int{0, 1}},
		{[]api.AiReport{saw(0, 14000), saw(0, 13900), heard(4000, 0), heard(3900, 0), still(3500, 0), dark(0, 13000)}, []int{4, 5}},
		{[]api.AiReport{saw(0, 14000), heard(4000, 0), heard(3900, 0), still(3500, 0), dark(0, 13000)}, []int{0, 3}},
		{[]api.AiReport{heard(3500, 0), saw(0, 14000), saw(0, 13900), heard(3000, 0), dark(0, 13000), still(3200, 0)}, []int{0, 4}},
		{[]api.AiReport{heard(3500, 0), saw(0, 14000), saw(0, 13900), heard(3300, 0), dark(0, 13000), still(3200, 0)}, []int{4, 5}},
		{slices.Repeat([]api.AiReport{dark(0, 10000)}, 8), []int{0, 1, 2, 3, 4, 5, 6, 7}},
		{[]api.AiReport{saw(0, 14000), dark(0, 14000), saw(0, 14000), dark(0, 14000), saw(0, 14000), dark(0, 14000), saw(0, 14000), dark(0, 14000)}, []int{0, 2, 4, 6}},
	} {
		expectFalse(t, fmt.Sprint(f.l), example(f.l...), f.want, api.OK)
	}
}

// P6.7: scenes at random, held against the definitions.
func TestFalseAtRandom(t *testing.T) {
	d := newDice(7)
	var kinds [5]int
	for i := range 600 {
		c, _, _ := d.told([]int{2, 4, 8}[i%3], 8, []int{0, 20, 50}[i/3%3])
		want := falseOf(c)
		expectFalse(t, fmt.Sprint("random ", i), c, want, api.OK)
		kinds[min(4, len(want))]++
	}
	if slices.Min(kinds[:]) < 15 {
		t.Errorf("so many reports were false: %v", kinds)
	}
}
