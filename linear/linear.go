// Package linear tells whether whole numbers can be found for terms so that sums are at most 0, or with a TREE (P9, of a line A) that there are none.
package linear

import (
	"reason/sums"
	"reason/whole"
)

// atFirst is how much is spent at first on splits of columns, before values are looked for in another way: for where columns have no bound, splits may have no end.
const atFirst = 16

// deepest is how many splits may lie within each other, unless columns are narrow: so that trees do not grow too long.
const deepest = 128

// Outcome is what was found out: values of the columns, a tree, or neither, if that would cost too much.
type Outcome struct {
	Found  bool
	Closed bool
	Values []whole.Number // by column
	Spent  int            // what it cost: 1 for a split or a face, 1 or more for a cut
	cut    []bool         // by sum that was given: it was rounded
	nodes  []node         // a tree, in the order in which it is told
}

// solving is an outcome on its way.
type solving struct {
	columns []int
	forms   []form
	most    int // how much may be spent; below 0: as much as it takes
	until   int // how much may be spent before it is tried in another way; below 0: as much as it takes
	depth   int // how many splits lie within each other at hand
	out     Outcome
}

// Solve looks for values of the columns, which are all terms that are in the sums. It ends when more is spent than the most, if that is not below 0.
//
// Where values are fractions, it splits the first column that has one. If the first columns are narrow (few, and each with a few values, so that with whole values of these the others are whole too), that has an end.
func Solve(columns []int, list []sums.Sum, most int, narrow bool) Outcome {
	p := solving{columns: columns, most: most, until: -1}
	p.round(list)
	t := newTableau(len(columns), p.forms)
	r := t.settle()
	if r >= 0 {
		p.end(&t, r)
		p.out.Closed = true
	} else {
		p.try(&t, narrow)
	}
	if !p.out.Found {
		p.out.Values = nil
	}
	if !p.out.Closed {
		p.out.nodes = nil
	}
	return p.out
}

// try looks for whole values, where there are values that need not be whole: by splits, and if columns are not narrow, by turns in another way too, each time with more to spend than the last.
func (p *solving) try(t *tableau, narrow bool) {
	more := atFirst
	for !p.out.Found && !p.out.Closed && !p.isPoor() {
		// The other way has an end: so this comes to one, when there is enough to spend.
		if !narrow {
			p.until = p.out.Spent + more
		}
		p.out.nodes = nil
		p.depth = 0
		p.out.Closed = p.split(t)
		if !p.isOver() {
			return
		}
		p.face(t, more)
		more *= 4
	}
}

// round takes in sums over the columns, rounded where that says more.
func (p *solving) round(list []sums.Sum) {
	for _, s := range list {
		r := sums.Rounded(s)
		cut := isNearer(s, r)
		if !cut {
			r = s
		}
		p.forms = append(p.forms, formOf(p.columns, r))
		p.out.cut = append(p.out.cut, cut)
	}
}

// isNearer tells whether a sum says more when it is rounded: if its number is not divided without rest.
func isNearer(s sums.Sum, rounded sums.Sum) bool {
	if len(s.Parts) == 0 || len(rounded.Parts) == 0 {
		return false
	}
	// How often the divisor goes into the parts is how often it would go into the number.
	one := whole.Multiply(s.Parts[0].Times, rounded.Number)
	other := whole.Multiply(rounded.Parts[0].Times, s.Number)
	return whole.Compare(one, other) != 0
}

// isPoor tells whether more was spent than there was to spend.
func (p *solving) isPoor() bool { return p.most >= 0 && p.out.Spent > p.most }

// isOver tells whether more was spent than there was to spend before it is tried in another way, or splits lie too deep.
func (p *solving) isOver() bool {
	return p.isPoor() || p.until >= 0 && (p.out.Spent > p.until || p.depth > deepest)
}

// close tells whether there are no whole values for the forms of a tableau; the tree grows by why.
func (p *solving) close(t *tableau) bool {
	r := t.settle()
	if r >= 0 {
		p.end(t, r)
		return true
	}
	return p.split(t)
}

// end ends a branch of the tree at a row whose rest is below 0 whatever the others are.
func (p *solving) end(t *tableau, r int) {
	p.out.nodes = append(p.out.nodes, node{times: t.multiples(r)})
}

// split tells whether there are no whole values for the forms of a tableau that is settled. Each split within another takes values away from a column: so where columns are narrow, this comes to an end.
func (p *solving) split(t *tableau) bool {
	unknown, bound := p.broken(t)
	if unknown < 0 {
		p.out.Found = true
		return false
	}
	p.out.Spent++
	p.depth++
	if p.isOver() {
		return false
	}
	p.out.nodes = append(p.out.nodes, node{kind: isSplit, term: p.columns[unknown], bound: bound})
	lower := t.with(minus(len(p.columns), unknown, bound))
	if !p.close(&lower) {
		return false
	}
	above := minus(len(p.columns), unknown, whole.Add(bound, whole.From(1)))
	upper := t.with(above.opposite())
	closed := p.close(&upper)
	if closed {
		p.depth--
	}
	return closed
}

// broken tells the first unknown whose value is not whole, and the whole number below it; -1, if there is none. The values are kept.
func (p *solving) broken(t *tableau) (int, whole.Number) {
	p.out.Values = make([]whole.Number, len(p.columns))
	first := -1
	bound := whole.Number{}
	for i, number := range t.told {
		if number < 0 || number >= len(p.columns) {
			continue
		}
		r := t.rows[i]
		up := whole.DivideUp(r.number, r.parts)
		p.out.Values[number] = up
		exact := whole.Compare(whole.Multiply(up, r.parts), r.number) == 0
		if !exact && (first < 0 || number < first) {
			first = number
			bound = whole.Add(up, whole.From(-1))
		}
	}
	return first, bound
}

// face looks for whole values in another way than by splits, with so much to spend.
func (p *solving) face(t *tableau, most int) {
	if p.most >= 0 {
		most = min(most, p.most-p.out.Spent)
	}
	if most < 0 {
		return
	}
	f := newFacing(p.forms, t, most)
	m, closed := f.close(0, f.all(), t)
	p.out.Spent += f.spent
	if f.isPoor() {
		return
	}
	p.out.Found = !closed
	p.out.Closed = closed
	p.out.Values = f.values
	p.out.nodes = f.nodes(m)
}
