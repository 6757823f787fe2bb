package linear

import "reason/whole"

// basis has directions: forms without a number which can have any whole values together, and points that have them. Each form that it was made of is a sum of directions, each a whole number of times: first of the first direction alone, and so on.
type basis struct {
	directions [][]whole.Number // by column
	points     [][]whole.Number // by column: in a point its own direction is 1, the others 0
}

// newBasis makes directions of forms over so many columns.
//
// The points are at first the columns themselves. Points are added to others, whole numbers of times, until a form is 0 in all of them but one, whatever whole values it can have: then that one is the next. Where a point is taken away from another, the other's direction joins that of the first: so the directions go with the points.
func newBasis(columns int, list []form) basis {
	b := basis{directions: units(columns), points: units(columns)}
	made := 0
	for _, f := range list {
		if made < columns && b.gather(f.times, made) {
			made++
		}
	}
	return basis{directions: b.directions[:made], points: b.points[:made]}
}

// units are lists of which each has 1 at its own place, and 0 else.
func units(n int) [][]whole.Number {
	list := make([][]whole.Number, n)
	for i := range list {
		list[i] = make([]whole.Number, n)
		list[i][i] = whole.From(1)
	}
	return list
}

// gather changes the points from a place on until a form is 0 in all of them but the one at that place, and tells whether it is not 0 in that one.
func (b *basis) gather(times []whole.Number, from int) bool {
	values := make([]whole.Number, len(b.points))
	for i := from; i < len(b.points); i++ {
		values[i] = product(times, b.points[i])
	}
	for {
		// Each time the least value becomes less, or all others are 0: so this comes to an end.
		least := nearest(values, from)
		if least < 0 {
			return false
		}
		b.exchange(from, least, values)
		some := false
		for i := from + 1; i < len(values); i++ {
			b.take(i, from, values)
			some = some || whole.Sign(values[i]) != 0
		}
		if !some {
			return true
		}
	}
}

// nearest is the place of the value nearest to 0 that is not 0, from a place on; -1, if there is none.
func nearest(values []whole.Number, from int) int {
	best := -1
	for i := from; i < len(values); i++ {
		if whole.Sign(values[i]) == 0 {
			continue
		}
		if best < 0 || whole.Compare(absolute(values[i]), absolute(values[best])) < 0 {
			best = i
		}
	}
	return best
}

// exchange exchanges two points, with their directions and values.
func (b *basis) exchange(i int, j int, values []whole.Number) {
	point := b.points[i]
	b.points[i] = b.points[j]
	b.points[j] = point
	direction := b.directions[i]
	b.directions[i] = b.directions[j]
	b.directions[j] = direction
	value := values[i]
	values[i] = values[j]
	values[j] = value
}

// take takes one point away from another as often as its value goes into the other's.
func (b *basis) take(i int, from int, values []whole.Number) {
	often := quotient(values[i], values[from])
	if whole.Sign(often) == 0 {
		return
	}
	less := whole.Negate(often)
	b.points[i] = added(b.points[i], b.points[from], less)
	b.directions[from] = added(b.directions[from], b.directions[i], often)
	values[i] = whole.Add(values[i], whole.Multiply(values[from], less))
}

// added is one list and another so many times.
func added(a []whole.Number, other []whole.Number, often whole.Number) []whole.Number {
	made := make([]whole.Number, len(a))
	for i, n := range a {
		made[i] = whole.Add(n, whole.Multiply(at(other, i), often))
	}
	return made
}

// quotient is how often one number goes into another, rounded up; 0 of one that is 0.
func quotient(a whole.Number, by whole.Number) whole.Number {
	if whole.Sign(by) < 0 {
		return whole.DivideUp(whole.Negate(a), whole.Negate(by))
	}
	return whole.DivideUp(a, by)
}
