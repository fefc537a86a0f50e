// Package sat is layer 1: arithmetic of powers, which never leave their bounds.
package sat

import "trident/api"

// Clamp returns the power that is nearest to n.
func Clamp(n int) int {
	return max(-api.MaxPower, min(n, api.MaxPower))
}

// Add returns the sum of a and b. Clamping both first also keeps the sum of
// ints from wrapping around; the same holds for Sub, Mul and Neg.
func Add(a, b int) int {
	return Clamp(Clamp(a) + Clamp(b))
}

// Sub returns the difference of a and b.
func Sub(a, b int) int {
	return Clamp(Clamp(a) - Clamp(b))
}

// Mul returns the product of a and b.
func Mul(a, b int) int {
	return Clamp(Clamp(a) * Clamp(b))
}

// Neg returns n with the other sign.
func Neg(n int) int {
	return -Clamp(n)
}

// Sum adds the elements of l from left to right. The order matters where a
// bound is reached on the way.
func Sum(l ...int) int {
	sum := 0
	for _, n := range l {
		sum = Add(sum, n)
	}
	return sum
}

// Double returns n doubled times times.
func Double(n, times int) int {
	n = Clamp(n)
	for ; times > 0; times-- {
		twice := Add(n, n)
		if twice == n {
			// 0 and the bounds stay as they are, however great times is.
			return n
		}
		n = twice
	}
	return n
}

// Holds reports whether a and b, as they are passed, compare as op says: two
// numbers beyond the same bound are still different.
func Holds(op, a, b int) bool {
	switch op {
	case api.Lt:
		return a < b
	case api.Le:
		return a <= b
	case api.Eq:
		return a == b
	case api.Ne:
		return a != b
	case api.Ge:
		return a >= b
	case api.Gt:
		return a > b
	}
	return false
}
