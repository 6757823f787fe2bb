// Package whole has whole numbers that are exact, whatever their size.
package whole

// A limb holds nine digits: so the product of two limbs, with what is carried, fits in 64 bits.
const (
	width = 9
	base  = 1000000000
)

// Number is a whole number, at its zero value 0. Its limbs stand with the least first, and the last of them is not 0. Nothing changes the limbs of a number that is made: so numbers may share them.
type Number struct {
	below bool
	limbs []int64
}

// made is the number of that sign and of these limbs, which may have noughts behind.
func made(below bool, limbs []int64) Number {
	n := len(limbs)
	for n > 0 && limbs[n-1] == 0 {
		n--
	}
	if n == 0 {
		return Number{}
	}
	return Number{below: below, limbs: limbs[:n]}
}

// From is the number of an int.
func From(n int) Number {
	var limbs []int64
	rest := int64(n)
	for rest != 0 {
		// Limb by limb, for the least int has no opposite.
		limb := rest % base
		if limb < 0 {
			limb = -limb
		}
		limbs = append(limbs, limb)
		rest /= base
	}
	return made(n < 0, limbs)
}

// Negate is the opposite of a number.
func Negate(a Number) Number { return made(!a.below, a.limbs) }

// Compare is below 0, 0 or above 0, as the first number is below the second, equal to it or above it.
func Compare(a Number, b Number) int {
	if a.below != b.below {
		if a.below {
			return -1
		}
		return 1
	}
	if a.below {
		return compareLimbs(b.limbs, a.limbs)
	}
	return compareLimbs(a.limbs, b.limbs)
}

// compareLimbs is Compare of limbs without noughts behind.
func compareLimbs(a []int64, b []int64) int {
	if len(a) != len(b) {
		return len(a) - len(b)
	}
	for i := len(a) - 1; i >= 0; i-- {
		if a[i] < b[i] {
			return -1
		}
		if a[i] > b[i] {
			return 1
		}
	}
	return 0
}

// Add is the sum of two numbers.
func Add(a Number, b Number) Number {
	if a.below == b.below {
		return made(a.below, addLimbs(a.limbs, b.limbs))
	}
	if compareLimbs(a.limbs, b.limbs) >= 0 {
		return made(a.below, lessLimbs(a.limbs, b.limbs))
	}
	return made(b.below, lessLimbs(b.limbs, a.limbs))
}

// addLimbs adds limbs.
func addLimbs(a []int64, b []int64) []int64 {
	var sum []int64
	var carry int64
	for i := 0; i < len(a) || i < len(b); i++ {
		carry += limbAt(a, i) + limbAt(b, i)
		sum = append(sum, carry%base)
		carry /= base
	}
	return append(sum, carry)
}

// lessLimbs takes limbs away from others that are no less.
func lessLimbs(a []int64, b []int64) []int64 {
	var rest []int64
	var borrow int64
	for i := range a {
		limb := a[i] - limbAt(b, i) - borrow
		borrow = 0
		if limb < 0 {
			limb += base
			borrow = 1
		}
		rest = append(rest, limb)
	}
	return rest
}

// Multiply is the product of two numbers.
func Multiply(a Number, b Number) Number {
	product := make([]int64, len(a.limbs)+len(b.limbs))
	for i, limb := range a.limbs {
		var carry int64
		// One limb behind those of b takes what is carried.
		for j := i; j <= i+len(b.limbs) && j < len(product); j++ {
			carry += product[j] + limb*limbAt(b.limbs, j-i)
			product[j] = carry % base
			carry /= base
		}
	}
	return made(a.below != b.below, product)
}

// limbAt is the limb at a place; 0 where there is none.
func limbAt(limbs []int64, i int) int64 {
	if i < 0 || i >= len(limbs) {
		return 0
	}
	return limbs[i]
}
