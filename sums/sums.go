// Package sums has sums of terms, each so many times, and of a number.
package sums

import "reason/whole"

// Part is a term, so many times, which is not 0.
type Part struct {
	Term  int
	Times whole.Number
}

// Sum has its parts in the order of their terms, each term once.
type Sum struct {
	Parts  []Part
	Number whole.Number
}

// Constant is the sum of a number alone.
func Constant(n whole.Number) Sum { return Sum{Number: n} }

// Single is the sum of one term alone.
func Single(term int) Sum {
	return Sum{Parts: []Part{{Term: term, Times: whole.From(1)}}}
}

// Minus is the first sum less the second, of a stack with so many terms.
func Minus(a Sum, b Sum, terms int) Sum {
	total := NewTotal(terms)
	total.Add(a, whole.From(1))
	total.Add(b, whole.From(-1))
	return total.Sum()
}

// Rounded divides a sum by the greatest common divisor of its coefficients, and rounds its number up. Where a sum is at most 0, so is that one: for of whole numbers the terms come to a whole number.
func Rounded(s Sum) Sum {
	divisor := whole.Number{}
	for _, p := range s.Parts {
		divisor = whole.CommonDivisor(divisor, p.Times)
	}
	if whole.Sign(divisor) == 0 {
		return s
	}
	var parts []Part
	for _, p := range s.Parts {
		parts = append(parts, Part{Term: p.Term, Times: whole.DivideUp(p.Times, divisor)})
	}
	return Sum{Parts: parts, Number: whole.DivideUp(s.Number, divisor)}
}

// Total is a sum on its way: how often each term is in it, by the terms' numbers.
type Total struct {
	times  []whole.Number
	number whole.Number
}

// NewTotal is nothing yet, of a stack with so many terms.
func NewTotal(terms int) Total {
	if terms < 0 {
		return Total{}
	}
	return Total{times: make([]whole.Number, terms)}
}

// Add adds a sum so many times.
func (t *Total) Add(s Sum, times whole.Number) {
	if whole.Sign(times) == 0 {
		return
	}
	for _, p := range s.Parts {
		if p.Term < 0 || p.Term >= len(t.times) {
			continue
		}
		more := whole.Multiply(p.Times, times)
		t.times[p.Term] = whole.Add(t.times[p.Term], more)
	}
	more := whole.Multiply(s.Number, times)
	t.number = whole.Add(t.number, more)
}

// Sum is what the total has come to.
func (t *Total) Sum() Sum {
	s := Sum{Number: t.number}
	for term, times := range t.times {
		if whole.Sign(times) != 0 {
			s.Parts = append(s.Parts, Part{Term: term, Times: times})
		}
	}
	return s
}
