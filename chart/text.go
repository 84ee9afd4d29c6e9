package chart

import (
	"strconv"
	"strings"

	"nore/api"
)

// The first words of lines.
const (
	wordMark = "mark"
	wordSand = "sand"
)

// Write returns the text of a chart.
func Write(c api.CtChart) (string, api.Errno) {
	if e := checkChart(c); e != api.OK {
		return "", e
	}
	text := ""
	for _, m := range c.Marks {
		text += line(wordMark, m.Name, markNumbers(m)...)
	}
	for _, s := range c.Sands {
		text += line(wordSand, s.Name, sandNumbers(s)...)
	}
	return text, api.OK
}

func markNumbers(m api.CtMark) []int {
	l := []int{m.At.X, m.At.Y}
	for _, p := range m.Paints {
		l = append(l, p.Day, p.Colour)
	}
	return l
}

func sandNumbers(s api.CtSand) []int {
	l := []int{s.Moves.X.Lo, s.Moves.X.Hi, s.Moves.Y.Lo, s.Moves.Y.Hi}
	for _, p := range s.Corners {
		l = append(l, p.X, p.Y)
	}
	return l
}

// line returns a line of a text.
func line(word, name string, numbers ...int) string {
	s := word + " " + name
	for _, n := range numbers {
		s += " " + strconv.Itoa(n)
	}
	return s + "\n"
}

// Read returns the chart of a text.
func Read(text string) (api.CtChart, api.Errno) {
	if len(text) > api.MaxCtText {
		return api.CtChart{}, api.ErrLong
	}
	c, e := tryRead(text)
	if e != api.OK {
		return api.CtChart{}, e
	}
	// The reader takes more than one text for the same chart; just the one that is written counts, and none is of a chart with an error.
	if written, e := Write(c); e != api.OK || written != text {
		return api.CtChart{}, api.ErrForm
	}
	return c, api.OK
}

// tryRead returns what read does, and an error where that panics.
func tryRead(text string) (c api.CtChart, e api.Errno) {
	defer func() {
		if recover() != nil {
			c, e = api.CtChart{}, api.ErrForm
		}
	}()
	return read(text), api.OK
}

// read returns the chart of a text, or panics if words are missing or wrong.
func read(text string) api.CtChart {
	var c api.CtChart
	for l := range strings.Lines(text) {
		r := reader{strings.Split(strings.TrimSuffix(l, "\n"), " ")}
		switch r.word() {
		case wordMark:
			c.Marks = append(c.Marks, r.mark())
		case wordSand:
			c.Sands = append(c.Sands, r.sand())
		default:
			panic(api.ErrForm)
		}
	}
	return c
}

// reader has the words of a line that are still to be read. It panics where the next one is missing or wrong.
type reader struct{ words []string }

func (r *reader) more() bool { return len(r.words) > 0 }

func (r *reader) word() string {
	if !r.more() {
		panic(api.ErrForm)
	}
	w := r.words[0]
	r.words = r.words[1:]
	return w
}

func (r *reader) number() int {
	n, err := strconv.Atoi(r.word())
	if err != nil {
		panic(api.ErrForm)
	}
	return n
}

func (r *reader) point() api.Point {
	x := r.number()
	y := r.number()
	return api.Point{X: x, Y: y}
}

func (r *reader) span() api.Span {
	lo := r.number()
	hi := r.number()
	return api.Span{Lo: lo, Hi: hi}
}

func (r *reader) mark() api.CtMark {
	var m api.CtMark
	m.Name = strings.Clone(r.word())
	m.At = r.point()
	for r.more() {
		day := r.number()
		colour := r.number()
		m.Paints = append(m.Paints, api.CtPaint{Day: day, Colour: colour})
	}
	return m
}

func (r *reader) sand() api.CtSand {
	var s api.CtSand
	s.Name = strings.Clone(r.word())
	s.Moves.X = r.span()
	s.Moves.Y = r.span()
	for r.more() {
		s.Corners = append(s.Corners, r.point())
	}
	return s
}
