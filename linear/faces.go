package linear

import "reason/whole"

// hold is a form of a list, or its opposite, that is to be at most 0.
type hold struct {
	place    int
	opposite bool
}

// mix tells how often to take the forms of a list, and how often their opposites, by place.
type mix struct {
	forms     []whole.Number
	opposites []whole.Number
}

// facing looks for whole values where splits of columns find no end.
//
// Along some directions values have no end: there whole values can always be found, far enough out. So it counts which values the others can have, one after the other, from the greatest on. At each it looks at the face: where the direction has just that value. If nothing is found there, then the direction is less than that value; and there is a cut that says so, of what closes the face:
//
// A face is where a form is at most 0 and its opposite too. The first is there to be taken; the second is not. But to take the opposite once less is to take the form once more. So wherever a mix takes the opposite, the form can be taken instead, more often by a multiple of what the mix is divided by: on the face that makes no difference.
type facing struct {
	columns int
	given   int              // how many forms were given
	list    []form           // the forms that were given and those of the cuts
	cuts    [][]whole.Number // of each cut: how often each form ahead of it is taken
	basis   basis
	ray     []whole.Number // a way out, along which forms fall that have no end
	at      []whole.Number // by direction: the value on the face at hand
	most    int            // how much may be spent
	spent   int
	values  []whole.Number // by column, when they are found
}

// newFacing makes ready to look for whole values for forms, whose tableau is settled.
func newFacing(list []form, t *tableau, most int) facing {
	p := facing{columns: t.unknowns, given: len(list), most: most, ray: make([]whole.Number, t.unknowns)}
	p.list = append(p.list, list...)
	narrow := p.narrow(t)
	p.basis = newBasis(p.columns, narrow)
	p.at = make([]whole.Number, len(p.basis.directions))
	return p
}

// width is how far a form's rest can be raised: a number in so many parts.
type width struct {
	place  int
	number whole.Number
	parts  whole.Number
}

// narrow tells the forms whose rests cannot be raised without end, those with the least to raise first. All others fall along the ray.
func (p *facing) narrow(t *tableau) []form {
	var widths []width
	for i := 0; i < p.given; i++ {
		if whole.Sign(product(p.list[i].times, p.ray)) < 0 {
			continue
		}
		h := t.raiseRest(i)
		if h.endless {
			p.ray = added(p.ray, h.ray, whole.From(1))
			continue
		}
		w := width{place: i, number: h.top.number, parts: h.top.parts}
		at := len(widths)
		widths = append(widths, w)
		for at > 0 && w.isLess(widths[at-1]) {
			widths[at] = widths[at-1]
			at--
		}
		widths[at] = w
	}
	var list []form
	for _, w := range widths {
		list = append(list, p.list[w.place])
	}
	return list
}

// isLess tells whether a width is less than another.
func (w width) isLess(other width) bool {
	one := whole.Multiply(w.number, other.parts)
	two := whole.Multiply(other.number, w.parts)
	return whole.Compare(one, two) < 0
}

// all are the forms that were given.
func (p *facing) all() []hold {
	var held []hold
	for i := 0; i < p.given; i++ {
		held = append(held, hold{place: i})
	}
	return held
}

// isPoor tells whether more was spent than there was to spend.
func (p *facing) isPoor() bool { return p.spent > p.most }

// mixOf tells multiples of forms that are held, some perhaps more than once, as a mix.
func (p *facing) mixOf(held []hold, times []whole.Number) mix {
	m := p.nothing()
	for i, h := range held {
		if h.opposite {
			m.opposites[h.place] = whole.Add(m.opposites[h.place], at(times, i))
			continue
		}
		m.forms[h.place] = whole.Add(m.forms[h.place], at(times, i))
	}
	return m
}

// nothing is a mix of nothing.
func (p *facing) nothing() mix {
	return mix{forms: make([]whole.Number, len(p.list)), opposites: make([]whole.Number, len(p.list))}
}

// cut makes a cut of a mix that is divided by so much, and tells its place. Wherever the mix takes opposites, the forms are taken instead. What there is already is not made again.
func (p *facing) cut(m mix, divisor whole.Number) int {
	made := make([]whole.Number, len(p.list))
	f := form{times: make([]whole.Number, p.columns)}
	last := -1
	for i := range p.list {
		less := at(m.opposites, i)
		often := whole.Multiply(divisor, whole.DivideUp(less, divisor))
		often = whole.Add(often, whole.Negate(less))
		often = whole.Add(often, at(m.forms, i))
		made[i] = often
		if whole.Sign(often) != 0 {
			f = f.plus(p.list[i], often)
			last = i
		}
	}
	f = f.rounded()
	if last >= 0 && f.isSame(p.list[last]) {
		return last
	}
	// A cut is told with a multiple of each form ahead of it: so many of them cost more than each alone.
	p.spent += 1 + len(p.cuts)/64
	p.cuts = append(p.cuts, made)
	p.list = append(p.list, f)
	return len(p.list) - 1
}

// isSame tells whether two forms are the same.
func (f form) isSame(other form) bool {
	for i, n := range f.times {
		if whole.Compare(n, at(other.times, i)) != 0 {
			return false
		}
	}
	return whole.Compare(f.number, other.number) == 0
}

// nodes tells the tree that a mix of forms closes: the cuts that it needs, and an end.
func (p *facing) nodes(m mix) []node {
	needed := make([]bool, len(p.list))
	markTaken(needed, m.forms)
	for i := len(p.cuts) - 1; i >= 0; i-- {
		if needed[p.given+i] {
			markTaken(needed, p.cuts[i])
		}
	}
	var list []node
	for i, times := range p.cuts {
		if needed[p.given+i] {
			list = append(list, node{kind: isCut, times: p.kept(times, needed)})
		}
	}
	return append(list, node{kind: isEnd, times: p.kept(m.forms, needed)})
}

// markTaken marks the places that are taken at least once.
func markTaken(needed []bool, times []whole.Number) {
	for i, n := range times {
		if i < len(needed) && whole.Sign(n) != 0 {
			needed[i] = true
		}
	}
}

// kept are the multiples of the forms that were given and of the cuts that are needed.
func (p *facing) kept(times []whole.Number, needed []bool) []whole.Number {
	var list []whole.Number
	for i, n := range times {
		if i < p.given || needed[i] {
			list = append(list, n)
		}
	}
	return list
}
