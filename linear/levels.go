package linear

import "reason/whole"

// close tells whether there are no whole values, where forms are held, which are those of a tableau, and the directions ahead of a level have their values. If there are none, it tells a mix that comes to a number above 0; if there are some, it keeps them; else too much was spent.
func (p *facing) close(level int, held []hold, t *tableau) (mix, bool) {
	top := -1 // the last cut that says how great the direction can be
	for !p.isPoor() {
		now := heldWith(held, top)
		n := t.copied()
		if top >= 0 {
			n.add(p.list[top])
		}
		r := n.settle()
		if r >= 0 {
			return p.mixOf(now, n.multiples(r)), true
		}
		if level >= len(p.basis.directions) {
			p.find()
			return mix{}, false
		}
		m, closed, again := p.face(level, now, &n)
		if again < 0 {
			return m, closed
		}
		top = again
	}
	return mix{}, false
}

// heldWith is a list of holds with one form more, if there is such.
func heldWith(held []hold, place int) []hold {
	var made []hold
	made = append(made, held...)
	if place >= 0 {
		made = append(made, hold{place: place})
	}
	return made
}

// face looks at the face where the direction of a level has its greatest value. Where that is closed and the direction can be less, it tells the place of a cut that says that it is less; else -1, and what close tells.
func (p *facing) face(level int, now []hold, t *tableau) (mix, bool, int) {
	p.spent++
	direction := p.basis.directions[level]
	most := t.raise(direction)
	least := t.raise(negated(direction))
	greatest := most.down()
	p.at[level] = greatest
	order := whole.Sign(whole.Add(greatest, least.down()))
	above := p.bound(now, most)
	inner := heldWith(now, above)
	t.add(p.list[above])
	if order > 0 {
		inner = append(inner, hold{place: above, opposite: true})
		t.add(p.list[above].opposite())
	} else {
		below := p.bound(now, least)
		inner = append(inner, hold{place: below})
		t.add(p.list[below])
	}
	m, closed := p.close(level+1, inner, t)
	divisor := at(m.opposites, above)
	if !closed || order <= 0 || whole.Sign(divisor) == 0 {
		return m, closed, -1
	}
	again := p.cut(m, divisor)
	return mix{}, false, again
}

// down is the greatest whole number up to which a number can be raised.
func (h heights) down() whole.Number {
	up := whole.DivideUp(whole.Negate(h.top.number), h.top.parts)
	return whole.Negate(up)
}

// bound makes a cut that says how great a direction can be at the most, and tells its place.
func (p *facing) bound(now []hold, h heights) int {
	times := make([]whole.Number, len(now))
	for place, n := range h.top.times {
		put(times, numberAt(h.by, place)-p.columns, whole.Negate(n))
	}
	m := p.mixOf(now, times)
	return p.cut(m, h.top.parts)
}

// numberAt is the number at a place; -1 where there is none.
func numberAt(list []int, i int) int {
	if i < 0 || i >= len(list) {
		return -1
	}
	return list[i]
}

// find keeps values that fit: in which each direction has its value, and far enough out along the ray.
func (p *facing) find() {
	point := make([]whole.Number, p.columns)
	for i, value := range p.at {
		point = added(point, p.basis.points[i], value)
	}
	far := whole.Number{}
	for _, f := range p.list[:p.given] {
		falls := whole.Negate(product(f.times, p.ray))
		over := whole.Add(product(f.times, point), f.number)
		if whole.Sign(falls) <= 0 || whole.Sign(over) <= 0 {
			continue
		}
		steps := whole.DivideUp(over, falls)
		if whole.Compare(steps, far) > 0 {
			far = steps
		}
	}
	p.values = added(point, p.ray, far)
}
