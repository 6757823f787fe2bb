package linear

import "reason/whole"

// row tells a number by others: parts times it is a number and each other so many times. Parts is above 0. A row is never changed, but another put in its place: so tableaus may have the same.
type row struct {
	parts  whole.Number
	number whole.Number
	times  []whole.Number // by place among those by which rows tell
}

// tableau tells some numbers by others. A number is an unknown, from 0 on, or behind these the rest of a form: 0 less the form. A form is at most 0 just if its rest is not below 0. Those by which the rows tell are 0 for the time being.
type tableau struct {
	unknowns int
	rests    int
	told     []int // by row: the number that it tells; -1 of one that is neither an unknown nor a rest
	by       []int // by place: the number by which rows tell
	rows     []row
}

// newTableau tells the rests of forms by so many unknowns.
func newTableau(unknowns int, list []form) tableau {
	t := tableau{unknowns: unknowns, rests: len(list)}
	for i := 0; i < unknowns; i++ {
		t.by = append(t.by, i)
	}
	for i, f := range list {
		t.told = append(t.told, unknowns+i)
		t.rows = append(t.rows, row{parts: whole.From(1), number: whole.Negate(f.number), times: negated(f.times)})
	}
	return t
}

// copied is a tableau like this one: what is done to it leaves this one as it is.
func (t *tableau) copied() tableau {
	made := tableau{unknowns: t.unknowns, rests: t.rests}
	made.told = append(made.told, t.told...)
	made.by = append(made.by, t.by...)
	made.rows = append(made.rows, t.rows...)
	return made
}

// with is a tableau like this one with one form more.
func (t *tableau) with(f form) tableau {
	made := t.copied()
	made.add(f)
	return made
}

// add takes one form more in.
func (t *tableau) add(f form) {
	r := row{parts: whole.From(1), number: whole.Negate(f.number), times: make([]whole.Number, len(t.by))}
	for unknown, often := range f.times {
		if whole.Sign(often) != 0 {
			r = r.plus(t.rowOf(unknown), whole.Negate(often))
		}
	}
	t.told = append(t.told, t.unknowns+t.rests)
	t.rows = append(t.rows, r)
	t.rests++
}

// rowOf tells a number by those by which the rows tell.
func (t *tableau) rowOf(number int) row {
	for i, other := range t.told {
		if number == other {
			return t.rows[i]
		}
	}
	r := row{parts: whole.From(1), times: make([]whole.Number, len(t.by))}
	for i, other := range t.by {
		if number == other {
			r.times[i] = whole.From(1)
		}
	}
	return r
}

// settle exchanges numbers until no rest is below 0: then it tells -1. Else it tells a row whose rest is below 0 whatever the others are, as long as no rest is.
//
// Of several it takes the first, of rests and of numbers to exchange: so nothing comes again, and this comes to an end (Bland's rule).
func (t *tableau) settle() int {
	for {
		r := t.below()
		if r < 0 {
			return -1
		}
		place := t.mover(r)
		if place < 0 {
			return r
		}
		t.exchange(r, place)
	}
}

// below is the row of the first rest that is below 0; -1, if there is none.
func (t *tableau) below() int {
	best := -1
	for i := range t.rows {
		if t.told[i] < t.unknowns || whole.Sign(t.rows[i].number) >= 0 {
			continue
		}
		if best < 0 || t.told[i] < t.told[best] {
			best = i
		}
	}
	return best
}

// mover is the place of the first number by which a row can be made greater; -1, if there is none. A rest can only grow.
func (t *tableau) mover(r int) int {
	best := -1
	for place, times := range t.rows[r].times {
		sign := whole.Sign(times)
		if sign == 0 || sign < 0 && t.by[place] >= t.unknowns {
			continue
		}
		if best < 0 || t.by[place] < t.by[best] {
			best = place
		}
	}
	return best
}

// exchange makes a row tell the number at a place, by the one that it told.
func (t *tableau) exchange(r int, place int) {
	turned := t.rows[r].turned(place)
	t.rows[r] = turned
	held := t.told[r]
	t.told[r] = t.by[place]
	t.by[place] = held
	for i := range t.rows {
		if i != r && whole.Sign(at(t.rows[i].times, place)) != 0 {
			t.rows[i] = t.rows[i].replaced(place, turned)
		}
	}
}

// turned tells the number at a place, by the one that the row tells in its place.
func (w row) turned(place int) row {
	parts := at(w.times, place)
	old := w.parts
	number := w.number
	above := whole.Sign(parts) > 0
	if above {
		number = whole.Negate(number)
	} else {
		parts = whole.Negate(parts)
		old = whole.Negate(old)
	}
	made := row{parts: parts, number: number, times: make([]whole.Number, len(w.times))}
	for i, times := range w.times {
		switch {
		case i == place:
			times = old
		case above:
			times = whole.Negate(times)
		}
		made.times[i] = times
	}
	return made
}

// replaced tells the same with what another row says of the number at a place, by the one that stands there now.
func (w row) replaced(place int, other row) row {
	often := at(w.times, place)
	made := row{parts: whole.Multiply(w.parts, other.parts), times: make([]whole.Number, len(w.times))}
	made.number = mixed(w.number, other.parts, other.number, often)
	for i, times := range w.times {
		if i == place {
			times = whole.Number{}
		}
		made.times[i] = mixed(times, other.parts, at(other.times, i), often)
	}
	made.reduce()
	return made
}

// mixed is a so many times and b so many times.
func mixed(a whole.Number, often whole.Number, b whole.Number, oftenToo whole.Number) whole.Number {
	first := whole.Multiply(a, often)
	second := whole.Multiply(b, oftenToo)
	return whole.Add(first, second)
}

// reduce divides a row that was just made by what divides all of it.
func (w *row) reduce() {
	one := whole.From(1)
	divisor := whole.CommonDivisor(w.parts, w.number)
	for i := 0; i < len(w.times) && whole.Compare(divisor, one) != 0; i++ {
		divisor = whole.CommonDivisor(divisor, w.times[i])
	}
	if whole.Compare(divisor, one) <= 0 {
		return
	}
	w.parts = whole.DivideUp(w.parts, divisor)
	w.number = whole.DivideUp(w.number, divisor)
	for i, times := range w.times {
		w.times[i] = whole.DivideUp(times, divisor)
	}
}

// multiples tells how often to take each form, so that they come to a number above 0, by a row whose rest is below 0 whatever the others are.
func (t *tableau) multiples(r int) []whole.Number {
	list := make([]whole.Number, t.rests)
	put(list, t.told[r]-t.unknowns, t.rows[r].parts)
	for place, times := range t.rows[r].times {
		put(list, t.by[place]-t.unknowns, whole.Negate(times))
	}
	return list
}
