package linear

import (
	"reason/sums"
	"reason/whole"
)

// limit is a bound of a number, and a mark by which it is told.
type limit struct {
	is    bool
	value whole.Number
	mark  int
}

// Kept keeps a tableau from one look to the next: so that each goes on where the last came to. It looks for values of the columns that need not be whole.
//
// A number is a column, from 0 on, or behind these a direction. Each has a lower and an upper limit, or none. Those by which the rows tell have whole values within their limits.
type Kept struct {
	columns    []int
	directions []form // by number
	lower      []limit
	upper      []limit
	grid       tableau
	at         []whole.Number // by place: the value of the number by which the rows tell
}

// Side is a limit that a sum sets if it is at most 0: of a number, from above or from below. A sum without a term sets none.
type Side struct {
	is     bool
	above  bool
	number int
	value  whole.Number
}

// NewKept has columns without limits.
func NewKept(columns []int) Kept {
	k := Kept{at: make([]whole.Number, len(columns))}
	k.columns = append(k.columns, columns...)
	k.grid.unknowns = len(columns)
	for i, unit := range units(len(columns)) {
		k.grid.by = append(k.grid.by, i)
		k.directions = append(k.directions, form{times: unit})
	}
	k.lower = make([]limit, len(columns))
	k.upper = make([]limit, len(columns))
	return k
}

// Side tells the limit that a sum sets. A direction that is new gets a row.
func (k *Kept) Side(s sums.Sum) Side {
	if len(s.Parts) == 0 {
		return Side{}
	}
	f := formOf(k.columns, sums.Rounded(s))
	for number, d := range k.directions {
		if sameTimes(f.times, d.times) {
			return Side{is: true, above: true, number: number, value: whole.Negate(f.number)}
		}
		if sameTimes(negated(f.times), d.times) {
			return Side{is: true, number: number, value: f.number}
		}
	}
	k.direct(f.times)
	return Side{is: true, above: true, number: len(k.directions) - 1, value: whole.Negate(f.number)}
}

// sameTimes tells whether two lists are the same.
func sameTimes(a []whole.Number, b []whole.Number) bool {
	for i, n := range a {
		if whole.Compare(n, at(b, i)) != 0 {
			return false
		}
	}
	return true
}

// direct takes a new direction in.
func (k *Kept) direct(times []whole.Number) {
	r := row{parts: whole.From(1), times: make([]whole.Number, len(k.grid.by))}
	for column, often := range times {
		if whole.Sign(often) != 0 {
			r = r.plus(k.grid.rowOf(column), often)
		}
	}
	k.grid.told = append(k.grid.told, len(k.directions))
	k.grid.rows = append(k.grid.rows, r)
	k.directions = append(k.directions, form{times: times})
	k.lower = append(k.lower, limit{})
	k.upper = append(k.upper, limit{})
}

// Clear takes all limits back.
func (k *Kept) Clear() {
	for i := range k.lower {
		k.lower[i] = limit{}
		k.upper[i] = limit{}
	}
}

// Set sets a limit, with a mark, unless there is one that is as near.
func (k *Kept) Set(s Side, mark int) {
	if !s.is || s.number < 0 || s.number >= len(k.lower) {
		return
	}
	l := limit{is: true, value: s.value, mark: mark}
	if s.above && (!k.upper[s.number].is || whole.Compare(s.value, k.upper[s.number].value) < 0) {
		k.upper[s.number] = l
	}
	if !s.above && (!k.lower[s.number].is || whole.Compare(s.value, k.lower[s.number].value) > 0) {
		k.lower[s.number] = l
	}
}

// Marks tells the marks of all limits that are set.
func (k *Kept) Marks() []int {
	var list []int
	for i := range k.lower {
		if k.lower[i].is {
			list = append(list, k.lower[i].mark)
		}
		if k.upper[i].is {
			list = append(list, k.upper[i].mark)
		}
	}
	return list
}

// Look looks for values within all limits. If there are none, it tells the marks of limits that contradict each other.
func (k *Kept) Look() []int {
	for i := range k.lower {
		if k.lower[i].is && k.upper[i].is && whole.Compare(k.lower[i].value, k.upper[i].value) > 0 {
			return []int{k.lower[i].mark, k.upper[i].mark}
		}
	}
	k.step()
	for {
		// The first that is out of its limits is exchanged for the first that can bring it back: so this comes to an end, as settle does.
		r, isBelow := k.outside()
		if r < 0 {
			return nil
		}
		place := k.helper(r, isBelow)
		if place < 0 {
			return k.clash(r, isBelow)
		}
		goal := k.upper[k.grid.told[r]].value
		if isBelow {
			goal = k.lower[k.grid.told[r]].value
		}
		k.grid.exchange(r, place)
		k.at[place] = goal
	}
}

// step brings those by which the rows tell within their limits.
func (k *Kept) step() {
	for place, number := range k.grid.by {
		if k.lower[number].is && whole.Compare(k.at[place], k.lower[number].value) < 0 {
			k.at[place] = k.lower[number].value
		}
		if k.upper[number].is && whole.Compare(k.at[place], k.upper[number].value) > 0 {
			k.at[place] = k.upper[number].value
		}
	}
}

// outside tells the row of the first number that is out of its limits, and whether it is below; -1, if there is none.
func (k *Kept) outside() (int, bool) {
	best := -1
	isBelow := false
	for i, number := range k.grid.told {
		if best >= 0 && k.grid.told[best] < number || !k.lower[number].is && !k.upper[number].is {
			continue
		}
		value := product(k.grid.rows[i].times, k.at)
		parts := k.grid.rows[i].parts
		if k.lower[number].is && whole.Compare(value, whole.Multiply(parts, k.lower[number].value)) < 0 {
			best = i
			isBelow = true
		}
		if k.upper[number].is && whole.Compare(value, whole.Multiply(parts, k.upper[number].value)) > 0 {
			best = i
			isBelow = false
		}
	}
	return best, isBelow
}

// helper is the place of the first number that can bring a row's back into its limits; -1, if there is none.
func (k *Kept) helper(r int, isBelow bool) int {
	best := -1
	for place, times := range k.grid.rows[r].times {
		sign := whole.Sign(times)
		if sign == 0 || k.isStuck(place, (sign > 0) == isBelow) {
			continue
		}
		if best < 0 || k.grid.by[place] < k.grid.by[best] {
			best = place
		}
	}
	return best
}

// isStuck tells whether the number at a place cannot be raised, or lowered.
func (k *Kept) isStuck(place int, up bool) bool {
	number := k.grid.by[place]
	if up {
		return k.upper[number].is && whole.Compare(k.at[place], k.upper[number].value) >= 0
	}
	return k.lower[number].is && whole.Compare(k.at[place], k.lower[number].value) <= 0
}

// clash tells the marks of the limits because of which a row's number is out of its own.
func (k *Kept) clash(r int, isBelow bool) []int {
	number := k.grid.told[r]
	marks := []int{k.upper[number].mark}
	if isBelow {
		marks = []int{k.lower[number].mark}
	}
	for place, times := range k.grid.rows[r].times {
		sign := whole.Sign(times)
		if sign == 0 {
			continue
		}
		if (sign > 0) == isBelow {
			marks = append(marks, k.upper[k.grid.by[place]].mark)
			continue
		}
		marks = append(marks, k.lower[k.grid.by[place]].mark)
	}
	return marks
}

// Fits tells whether the values that were found are within a limit.
func (k *Kept) Fits(s Side) bool {
	if !s.is {
		return false
	}
	r := k.grid.rowOf(s.number)
	value := product(r.times, k.at)
	order := whole.Compare(value, whole.Multiply(r.parts, s.value))
	return order == 0 || (order < 0) == s.above
}

// Whole tells the values of the columns that were found, if all are whole; else nil.
func (k *Kept) Whole() []whole.Number {
	values := make([]whole.Number, len(k.columns))
	for i := range values {
		r := k.grid.rowOf(i)
		value := product(r.times, k.at)
		values[i] = whole.DivideUp(value, r.parts)
		if whole.Compare(whole.Multiply(values[i], r.parts), value) != 0 {
			return nil
		}
	}
	return values
}
