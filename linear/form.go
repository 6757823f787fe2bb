package linear

import (
	"reason/sums"
	"reason/whole"
)

// form is a sum over the columns: each so many times, and a number.
type form struct {
	times  []whole.Number // by column
	number whole.Number
}

// formOf is a sum over the columns.
func formOf(columns []int, s sums.Sum) form {
	f := form{times: make([]whole.Number, len(columns)), number: s.Number}
	for i, term := range columns {
		f.times[i] = timesOf(s, term)
	}
	return f
}

// timesOf tells how often a term is in a sum.
func timesOf(s sums.Sum, term int) whole.Number {
	for _, p := range s.Parts {
		if p.Term == term {
			return p.Times
		}
	}
	return whole.Number{}
}

// minus is the form of one of so many columns less a number.
func minus(columns int, column int, number whole.Number) form {
	f := form{times: make([]whole.Number, columns), number: whole.Negate(number)}
	put(f.times, column, whole.From(1))
	return f
}

// opposite is 0 less a form.
func (f form) opposite() form {
	return form{times: negated(f.times), number: whole.Negate(f.number)}
}

// plus is a form and another so many times.
func (f form) plus(other form, often whole.Number) form {
	made := form{times: make([]whole.Number, len(f.times))}
	made.number = whole.Add(f.number, whole.Multiply(other.number, often))
	for i, n := range f.times {
		made.times[i] = whole.Add(n, whole.Multiply(at(other.times, i), often))
	}
	return made
}

// rounded divides a form by what divides all its columns' times, and rounds its number up: as a `c` does.
func (f form) rounded() form {
	divisor := whole.Number{}
	for _, n := range f.times {
		divisor = whole.CommonDivisor(divisor, n)
	}
	if whole.Sign(divisor) == 0 {
		return f
	}
	made := form{times: make([]whole.Number, len(f.times)), number: whole.DivideUp(f.number, divisor)}
	for i, n := range f.times {
		made.times[i] = whole.DivideUp(n, divisor)
	}
	return made
}

// product adds up two lists, place by place multiplied.
func product(a []whole.Number, b []whole.Number) whole.Number {
	total := whole.Number{}
	for i, n := range a {
		if whole.Sign(n) != 0 {
			total = whole.Add(total, whole.Multiply(n, at(b, i)))
		}
	}
	return total
}

// negated are the opposites of numbers.
func negated(list []whole.Number) []whole.Number {
	made := make([]whole.Number, len(list))
	for i, n := range list {
		made[i] = whole.Negate(n)
	}
	return made
}

// at is the number at a place; 0 where there is none.
func at(list []whole.Number, i int) whole.Number {
	if i < 0 || i >= len(list) {
		return whole.Number{}
	}
	return list[i]
}

// put puts a number at a place, if there is such a place.
func put(list []whole.Number, i int, n whole.Number) {
	if i >= 0 && i < len(list) {
		list[i] = n
	}
}
