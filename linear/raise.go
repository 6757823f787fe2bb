package linear

import "reason/whole"

// heights is how far a number can be raised, as long as no rest is below 0.
type heights struct {
	endless bool
	ray     []whole.Number // endless: by unknown: so many steps of each raise the number, and no rest falls
	top     row            // else: the number by rests, each of which only makes it less
	by      []int          // the numbers by which top tells
}

// raise tells how far a direction, which is unknowns each so many times, can be raised in a settled tableau.
func (t *tableau) raise(times []whole.Number) heights {
	made := t.copied()
	target := row{parts: whole.From(1), times: make([]whole.Number, len(t.by))}
	for unknown, often := range times {
		if whole.Sign(often) != 0 {
			target = target.plus(t.rowOf(unknown), often)
		}
	}
	return made.raiseRow(target)
}

// raiseRest tells how far a rest can be raised in a settled tableau.
func (t *tableau) raiseRest(rest int) heights {
	made := t.copied()
	target := t.rowOf(t.unknowns + rest)
	return made.raiseRow(target)
}

// plus is what a row tells and another so many times.
func (w row) plus(other row, often whole.Number) row {
	oftenToo := whole.Multiply(often, w.parts)
	made := row{parts: whole.Multiply(w.parts, other.parts), times: make([]whole.Number, len(w.times))}
	made.number = mixed(w.number, other.parts, other.number, oftenToo)
	for i, n := range w.times {
		made.times[i] = mixed(n, other.parts, at(other.times, i), oftenToo)
	}
	made.reduce()
	return made
}

// raiseRow exchanges numbers until what a row tells, which becomes the last, can be raised no more. Of several it takes the first: so it comes to an end, as settle does.
func (t *tableau) raiseRow(target row) heights {
	last := len(t.rows)
	t.rows = append(t.rows, target)
	t.told = append(t.told, -1)
	for {
		place := t.mover(last)
		if place < 0 {
			return heights{top: t.rows[last], by: t.by}
		}
		sign := whole.Sign(at(t.rows[last].times, place))
		r := t.blocker(place, sign)
		if r < 0 {
			return heights{endless: true, ray: t.ray(place, sign)}
		}
		t.exchange(r, place)
	}
}

// blocker is the row of the rest that is the first to fall to 0 when the number at a place is raised (or, with a sign below 0, lowered); -1, if none falls.
func (t *tableau) blocker(place int, sign int) int {
	best := -1
	for i := range t.rows {
		falls := whole.Sign(at(t.rows[i].times, place))*sign < 0
		if t.told[i] < t.unknowns || !falls {
			continue
		}
		if best < 0 || t.isSooner(i, best, place) {
			best = i
		}
	}
	return best
}

// isSooner tells whether the rest of a row falls to 0 sooner than that of another, or as soon and stands ahead.
func (t *tableau) isSooner(i int, j int, place int) bool {
	one := absolute(whole.Multiply(t.rows[i].number, at(t.rows[j].times, place)))
	other := absolute(whole.Multiply(t.rows[j].number, at(t.rows[i].times, place)))
	order := whole.Compare(one, other)
	return order < 0 || order == 0 && t.told[i] < t.told[j]
}

// ray tells by how much each unknown changes, when the number at a place is raised or lowered by some whole number.
func (t *tableau) ray(place int, sign int) []whole.Number {
	common := whole.From(1)
	for i := range t.rows {
		if t.told[i] >= 0 && t.told[i] < t.unknowns {
			divisor := whole.CommonDivisor(common, t.rows[i].parts)
			common = whole.Multiply(common, whole.DivideUp(t.rows[i].parts, divisor))
		}
	}
	list := make([]whole.Number, t.unknowns)
	step := whole.Multiply(common, whole.From(sign))
	put(list, t.by[place], step)
	for i, r := range t.rows {
		if t.told[i] >= 0 && t.told[i] < t.unknowns {
			often := whole.DivideUp(common, r.parts)
			often = whole.Multiply(often, whole.From(sign))
			put(list, t.told[i], whole.Multiply(at(r.times, place), often))
		}
	}
	return list
}

// absolute is a number without its sign.
func absolute(n whole.Number) whole.Number {
	if whole.Sign(n) < 0 {
		return whole.Negate(n)
	}
	return n
}
