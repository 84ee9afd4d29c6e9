package air

import (
	"iter"

	"nore/api"
	"nore/chart"
)

const (
	perClear  = 100     // metres of a length behind which a light is half as bright
	perCandle = 1000000 // square metres
	downWind  = 1400    // metres that a horn with Loud 10 is heard down the wind
	perPoint  = 50      // metres less for each point from that of the wind
)

// signal is a truth of the light, or of the horn.
type signal interface {
	// reaches reports whether it is seen, or heard, at a spot.
	reaches(at spot) bool
	// numbers returns the two numbers that it is made of.
	numbers() (first, second int)
}

// light is a light of some candles, in air that is so clear.
type light struct{ candles, clear int }

func newLight(candles, clear int) light { return light{candles: candles, clear: clear} }

func (l light) reaches(at spot) bool {
	left, length := l.candles, l.clear*perClear
	for distance := length; distance*distance <= at.square; distance += length {
		left /= 2
	}
	return left*perCandle >= at.square
}

func (l light) numbers() (first, second int) { return l.candles, l.clear }

// horn is a horn that is so loud, while the wind blows toward a point.
type horn struct{ loud, wind int }

// newHorn returns a horn. Behind the last point of the compass comes the first one.
func newHorn(loud, wind int) horn { return horn{loud: loud, wind: wind % api.CtCompass} }

func (h horn) reaches(at spot) bool {
	clockwise := (at.point - h.wind + api.CtCompass) % api.CtCompass
	between := min(clockwise, api.CtCompass-clockwise)
	distance := h.loud * (downWind - perPoint*between) / 10
	return distance*distance >= at.square
}

func (h horn) numbers() (first, second int) { return h.loud, h.wind }

// signals yields what is made of each number of a span and each one of another span.
func signals[S signal](first, second api.Span, made func(first, second int) S) iter.Seq[signal] {
	return func(yield func(signal) bool) {
		for i := range size(first) {
			for k := range size(second) {
				if !yield(made(first.Lo+i, second.Lo+k)) {
					return
				}
			}
		}
	}
}

// size returns how many numbers a span has.
func size(s api.Span) int { return s.Hi - s.Lo + 1 }

// spot is where a place is from the light and the horn.
type spot struct {
	square int // of the distance
	point  int // of the compass, in which it is seen
}

// ahead returns the spot at a distance where just this matters: that of a light.
func ahead(distance int) spot { return spot{square: distance * distance} }

// spotAt returns the spot to which a vector leads.
func spotAt(v api.Point) spot {
	// Places of a chart are at most half as far away as a vector leads, so it is laid from one side of the charted place to the other one.
	from := api.Point{X: -v.X / 2, Y: -v.Y / 2}
	ship := api.CtMark{
		Name:   "ship",
		At:     api.Point{X: from.X + v.X, Y: from.Y + v.Y},
		Paints: []api.CtPaint{{Day: 0, Colour: api.CtWhite}},
	}
	// A ship just at the horn is seen in no point; any will do, as the horn is heard there whatever the wind.
	point, _ := chart.Seen(api.CtChart{Marks: []api.CtMark{ship}}, 0, 0, from)
	return spot{square: v.X*v.X + v.Y*v.Y, point: point}
}
