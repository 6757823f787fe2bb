package proofs

import "reason/atoms"

// follow lets be so what follows from the literals that are so, and tells whether it comes to a clause with only literals that are not so.
func (k *clauses) follow() bool {
	for k.done < len(k.trail) {
		code := atoms.Opposite(k.trail[k.done])
		k.done++
		if k.leave(code) {
			return true
		}
	}
	return false
}

// leave goes through the clauses that wait at a literal which is not so, and tells whether one has only such literals.
func (k *clauses) leave(code int) bool {
	if code < 0 || code >= len(k.waiting) {
		return false
	}
	places := k.waiting[code]
	kept := 0
	contrary := false
	for _, place := range places {
		if !contrary && k.moveOn(place, code) {
			continue
		}
		places[kept] = place
		kept++
		if !contrary {
			contrary = k.conclude(place)
		}
	}
	k.waiting[code] = places[:kept]
	return contrary
}

// moveOn lets a clause wait at another literal than one that is not so, and tells whether there was one that can be so. If there is none, the literal stands second.
func (k *clauses) moveOn(place int, code int) bool {
	if place < 0 || place >= len(k.list) || len(k.list[place]) < 2 {
		return true
	}
	clause := k.list[place]
	if clause[0] == code {
		swap(clause, 0, 1)
	}
	if k.isSo(clause[0]) {
		return false
	}
	for i := 2; i < len(clause); i++ {
		if k.isSo(atoms.Opposite(clause[i])) {
			continue
		}
		swap(clause, 1, i)
		k.waitAt(clause[1], place)
		return true
	}
	return false
}

// swap exchanges two of a list.
func swap(list []int, i int, j int) {
	if i < 0 || j < 0 || i >= len(list) || j >= len(list) {
		return
	}
	held := list[i]
	list[i] = list[j]
	list[j] = held
}

// conclude lets the first literal of a clause be so, all others of which are not, or one of which is so; it tells whether the first is not so either.
func (k *clauses) conclude(place int) bool {
	if place < 0 || place >= len(k.list) || len(k.list[place]) == 0 {
		return false
	}
	return k.let(k.list[place][0])
}
