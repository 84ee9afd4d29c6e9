package fix

import "nore/api"

// reach is the greatest number that any instrument can be off by.
const reach = max(api.MaxFxOff, api.MaxFxLead)

// numbers has of each number, from -reach to reach, whether an instrument can be off by it.
type numbers [2*reach + 1]bool

// offs has the numbers of each instrument.
type offs [api.MaxFxInstruments]numbers

// numbersOf returns all numbers of a span.
func numbersOf(s api.Span) numbers {
	var n numbers
	for i := range n {
		n[i] = within(s.Lo, s.Hi, i-reach)
	}
	return n
}

// has reports whether a number from -reach to reach is one of these.
func (n *numbers) has(off int) bool { return n[off+reach] }

// keep leaves just the numbers that a span has too, and reports whether any is left.
func (n *numbers) keep(s api.Span) bool {
	left := false
	for i := range n {
		n[i] = n[i] && within(s.Lo, s.Hi, i-reach)
		left = left || n[i]
	}
	return left
}

// ends returns the least and the greatest of the numbers.
func (n *numbers) ends() api.Span {
	s := api.Span{Lo: reach, Hi: -reach}
	for i, is := range n {
		if is {
			s = wide(s, i-reach)
		}
	}
	return s
}
