// Package whole has whole numbers that are exact, whatever their size.
package whole

// A limb holds nine digits: so the product of two limbs, with what is carried, fits in 64 bits.
const (
	width = 9
	base  = 1000000000
	near  = base * base // numbers nearer to 0 are kept without limbs
)

// Number is a whole number, at its zero value 0. One nearer to 0 than near has no limbs: most are, and so cost no room of their own. Any other has limbs, with the least first, the last of them not 0; its value tells its sign alone. Nothing changes the limbs of a number that is made: so numbers may share them.
type Number struct {
	value int64
	limbs []int64
}

// made is the number of that sign and of these limbs, which may have noughts behind.
func made(below bool, limbs []int64) Number {
	n := trimmed(limbs)
	value := int64(1)
	if n <= 2 {
		value = limbAt(limbs, 1)*base + limbAt(limbs, 0)
		limbs = nil
		n = 0
	}
	if below {
		value = -value
	}
	return Number{value: value, limbs: limbs[:n]}
}

// trimmed counts limbs without the noughts behind.
func trimmed(limbs []int64) int {
	n := len(limbs)
	for n > 0 && limbs[n-1] == 0 {
		n--
	}
	return n
}

// of64 is the number of an int64.
func of64(n int64) Number {
	if n > -near && n < near {
		return Number{value: n}
	}
	return made(n < 0, limbsOf64(n))
}

// limbsOf64 are the limbs of an int64, without its sign.
func limbsOf64(n int64) []int64 {
	var limbs []int64
	for n != 0 {
		// Limb by limb, for the least int64 has no opposite.
		limb := n % base
		if limb < 0 {
			limb = -limb
		}
		limbs = append(limbs, limb)
		n /= base
	}
	return limbs
}

// isNear tells whether a number has no limbs.
func isNear(a Number) bool { return len(a.limbs) == 0 }

// limbsOf are a number's limbs, without its sign.
func limbsOf(a Number) []int64 {
	if isNear(a) {
		return limbsOf64(a.value)
	}
	return a.limbs
}

// From is the number of an int.
func From(n int) Number { return of64(int64(n)) }

// Negate is the opposite of a number.
func Negate(a Number) Number { return Number{value: -a.value, limbs: a.limbs} }

// Compare is below 0, 0 or above 0, as the first number is below the second, equal to it or above it.
func Compare(a Number, b Number) int {
	if isNear(a) && isNear(b) {
		return compare64(a.value, b.value)
	}
	below := a.value < 0
	if below != (b.value < 0) {
		return compare64(a.value, b.value)
	}
	if below {
		return compareLimbs(limbsOf(b), limbsOf(a))
	}
	return compareLimbs(limbsOf(a), limbsOf(b))
}

// compare64 is Compare of two of 64 bits.
func compare64(a int64, b int64) int {
	if a < b {
		return -1
	}
	if a > b {
		return 1
	}
	return 0
}

// compareLimbs is Compare of limbs without noughts behind.
func compareLimbs(a []int64, b []int64) int {
	if len(a) != len(b) {
		return len(a) - len(b)
	}
	for i := len(a) - 1; i >= 0; i-- {
		if a[i] != b[i] {
			return compare64(a[i], b[i])
		}
	}
	return 0
}

// Add is the sum of two numbers.
func Add(a Number, b Number) Number {
	if isNear(a) && isNear(b) {
		return of64(a.value + b.value)
	}
	first := limbsOf(a)
	second := limbsOf(b)
	below := a.value < 0
	if below == (b.value < 0) {
		return made(below, addLimbs(first, second))
	}
	if compareLimbs(first, second) >= 0 {
		return made(below, lessLimbs(first, second))
	}
	return made(!below, lessLimbs(second, first))
}

// addLimbs adds limbs.
func addLimbs(a []int64, b []int64) []int64 {
	var sum []int64
	var carry int64
	for i := 0; i < len(a) || i < len(b); i++ {
		carry += limbAt(a, i) + limbAt(b, i)
		sum = append(sum, carry%base)
		carry /= base
	}
	return append(sum, carry)
}

// lessLimbs takes limbs away from others that are no less.
func lessLimbs(a []int64, b []int64) []int64 {
	var rest []int64
	var borrow int64
	for i := range a {
		limb := a[i] - limbAt(b, i) - borrow
		borrow = 0
		if limb < 0 {
			limb += base
			borrow = 1
		}
		rest = append(rest, limb)
	}
	return rest
}

// Multiply is the product of two numbers.
func Multiply(a Number, b Number) Number {
	if isLimb(a) && isLimb(b) {
		return of64(a.value * b.value)
	}
	return made((a.value < 0) != (b.value < 0), multiplyLimbs(limbsOf(a), limbsOf(b)))
}

// isLimb tells whether a number without its sign is one limb: the product of two such fits in 64 bits.
func isLimb(a Number) bool { return isNear(a) && a.value > -base && a.value < base }

// multiplyLimbs multiplies limbs.
func multiplyLimbs(a []int64, b []int64) []int64 {
	product := make([]int64, len(a)+len(b))
	for i, limb := range a {
		var carry int64
		// One limb behind those of b takes what is carried.
		for j := i; j <= i+len(b) && j < len(product); j++ {
			carry += product[j] + limb*limbAt(b, j-i)
			product[j] = carry % base
			carry /= base
		}
	}
	return product
}

// limbAt is the limb at a place; 0 where there is none.
func limbAt(limbs []int64, i int) int64 {
	if i < 0 || i >= len(limbs) {
		return 0
	}
	return limbs[i]
}
