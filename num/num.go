// Package num is layer 1: 64-bit integer arithmetic with overflow detection.
package num

// Add returns a + b and true, or 0 and false if the sum does not fit.
func Add(a int64, b int64) (int64, bool) {
	c := a + b
	// The sum is wrong exactly if both operands have the sign that it lacks.
	if (a^c)&(b^c) < 0 {
		return 0, false
	}
	return c, true
}

// Sub returns a - b and true, or 0 and false if the difference does not fit.
func Sub(a int64, b int64) (int64, bool) {
	c := a - b
	if (a^b)&(a^c) < 0 {
		return 0, false
	}
	return c, true
}

// Mul returns a * b and true, or 0 and false if the product does not fit.
func Mul(a int64, b int64) (int64, bool) {
	if a == 0 || b == 0 {
		return 0, true
	}
	c := a * b
	// Dividing the least number by -1 wraps round, so the signs are examined as well.
	if c/b != a || (c < 0) != ((a < 0) != (b < 0)) {
		return 0, false
	}
	return c, true
}

// Sum adds its arguments one by one; it returns 0 and false as soon as a partial sum does not fit.
func Sum(l ...int64) (int64, bool) {
	sum := int64(0)
	for _, n := range l {
		next, ok := Add(sum, n)
		if !ok {
			return 0, false
		}
		sum = next
	}
	return sum, true
}

// Clamp returns lo if n is less than lo, otherwise hi if n is greater than hi, otherwise n.
func Clamp(n int, lo int, hi int) int {
	if n < lo {
		return lo
	}
	if n > hi {
		return hi
	}
	return n
}

// In reports whether lo <= n <= hi.
func In(n int64, lo int64, hi int64) bool {
	return lo <= n && n <= hi
}
