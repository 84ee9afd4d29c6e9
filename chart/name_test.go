package chart_test

import (
	"regexp"
	"strings"
	"testing"

	"nore/api"
	"nore/chart"
)

// P1.1: names.
func TestName(t *testing.T) {
	for _, s := range []string{"a", "z", "az", "church", "a-b", "a-b-c-d-e-f-g", "long-sand", "abcdefghijklmn", "mark", "sand"} {
		if !chart.Name(s) {
			t.Errorf("%q is a name", s)
		}
	}
	// The letters of the last three have a small one as their last byte, as bits, or as the last byte of their number.
	for _, s := range []string{"", "-", "--", "-a", "a-", "a--b", "a---b", "abcdefghijklmno", "abcdefghijklm-", "aB", "a b", "a1", "a_b", "a\x00", "a\n", "\na", "a\xe1", "\xff", "\u0161", "a\u0161", "\u00e9\u00e9\u00e9"} {
		if chart.Name(s) {
			t.Errorf("%q is no name", s)
		}
	}
}

// P1.1: each byte, in each place of a name.
func TestNameOfBytes(t *testing.T) {
	for i := range 256 {
		b := string([]byte{byte(i)})
		letter := i >= 'a' && i <= 'z'
		for _, c := range []struct {
			s    string
			want bool
		}{{b, letter}, {b + "b", letter}, {"b" + b, letter}, {"b" + b + "b", letter || b == "-"}} {
			if chart.Name(c.s) != c.want {
				t.Errorf("Name of %q = %v", c.s, !c.want)
			}
		}
	}
}

// P1.1: names of each length.
func TestNameOfLengths(t *testing.T) {
	for n := range 40 {
		if got := chart.Name(strings.Repeat("a", n)); got != (n >= 1 && n <= 14) {
			t.Errorf("Name of %d letters = %v", n, got)
		}
	}
	if chart.Name(strings.Repeat("a", 1<<20)) || chart.Name(strings.Repeat("a", 256+5)) {
		t.Errorf("Name of many letters = true")
	}
}

// P1.1: all strings of a few bytes.
func TestNameOfAll(t *testing.T) {
	name := regexp.MustCompile(`^[a-z]+(-[a-z]+)*$`)
	var all func(s string)
	all = func(s string) {
		if chart.Name(s) != name.MatchString(s) {
			t.Errorf("Name of %q = %v", s, !name.MatchString(s))
		}
		if len(s) == 7 {
			return
		}
		for _, b := range []string{"a", "z", "-", "."} {
			all(s + b)
		}
	}
	all("")
}

// compass has the vectors of all points.
var compass = [32]api.Point{
	{X: 0, Y: 1000}, {X: 195, Y: 981}, {X: 383, Y: 924}, {X: 556, Y: 831},
	{X: 707, Y: 707}, {X: 831, Y: 556}, {X: 924, Y: 383}, {X: 981, Y: 195},
	{X: 1000, Y: 0}, {X: 981, Y: -195}, {X: 924, Y: -383}, {X: 831, Y: -556},
	{X: 707, Y: -707}, {X: 556, Y: -831}, {X: 383, Y: -924}, {X: 195, Y: -981},
	{X: 0, Y: -1000}, {X: -195, Y: -981}, {X: -383, Y: -924}, {X: -556, Y: -831},
	{X: -707, Y: -707}, {X: -831, Y: -556}, {X: -924, Y: -383}, {X: -981, Y: -195},
	{X: -1000, Y: 0}, {X: -981, Y: 195}, {X: -924, Y: 383}, {X: -831, Y: 556},
	{X: -707, Y: 707}, {X: -556, Y: 831}, {X: -383, Y: 924}, {X: -195, Y: 981},
}

// P1.1: vectors.
func TestVector(t *testing.T) {
	for p, want := range compass {
		if v, e := chart.Vector(p); v != want || e != api.OK {
			t.Errorf("Vector of %d = %v, %d", p, v, e)
		}
	}
	for _, p := range append([]int{-1, -8, -32, 32, 33, 64, 256}, far...) {
		if v, e := chart.Vector(p); v != point(0, 0) || e != api.ErrRange {
			t.Errorf("Vector of %d = %v, %d", p, v, e)
		}
	}
}
