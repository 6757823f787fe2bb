package linear

import (
	"reason/whole"
	"strconv"
)

// node is a piece of a tree: a split of a term at a bound, or an end, at which each sum so many times comes to a number above 0.
type node struct {
	split bool
	term  int
	bound whole.Number
	times []whole.Number // by sum: those given, rounded where that says more, and behind them those of the splits that are at hand
}

// multiples tells how often to take each sum, so that they come to a number above 0, by a row whose rest is below 0 whatever the others are.
func (t *tableau) multiples(r int) []whole.Number {
	list := make([]whole.Number, len(t.rows))
	put(list, t.told[r]-t.unknowns, t.rows[r].parts)
	for place, times := range t.rows[r].times {
		put(list, t.by[place]-t.unknowns, whole.Negate(times))
	}
	return list
}

// put puts a number at a place, if there is such a place.
func put(list []whole.Number, i int, n whole.Number) {
	if i >= 0 && i < len(list) {
		list[i] = n
	}
}

// Used tells of each sum that was given whether the tree needs it.
func (o Outcome) Used() []bool {
	used := make([]bool, len(o.cut))
	for _, n := range o.nodes {
		for i, times := range n.times {
			if i < len(used) && whole.Sign(times) != 0 {
				used[i] = true
			}
		}
	}
	return used
}

// Tree tells the tree, over the sums that it needs: first each of these that is rounded, then what goes on from there.
func (o Outcome) Tree() string {
	used := o.Used()
	var text []byte
	cuts := 0
	for i, cut := range o.cut {
		if cut && used[i] {
			text = append(text, o.cutText(used, i, cuts)...)
			cuts++
		}
	}
	for i, n := range o.nodes {
		if i > 0 {
			text = append(text, ' ')
		}
		if n.split {
			text = append(text, "s "+strconv.Itoa(n.term)+" "+n.bound.Text()...)
			continue
		}
		text = append(text, o.endText(used, n.times)...)
	}
	return string(text)
}

// cutText tells that one sum is rounded, behind so many others.
func (o Outcome) cutText(used []bool, one int, others int) string {
	text := "c"
	for i := range used {
		if i == one {
			text += " 1"
		} else if used[i] {
			text += " 0"
		}
	}
	for i := 0; i < others; i++ {
		text += " 0"
	}
	return text + "; "
}

// endText tells how often each sum is taken: of those that were rounded, not as they were given.
func (o Outcome) endText(used []bool, times []whole.Number) string {
	given := "f"
	cuts := ""
	splits := ""
	for i, n := range times {
		switch {
		case i >= len(used):
			splits += " " + n.Text()
		case used[i] && o.cut[i]:
			given += " 0"
			cuts += " " + n.Text()
		case used[i]:
			given += " " + n.Text()
		}
	}
	return given + cuts + splits + ";"
}
