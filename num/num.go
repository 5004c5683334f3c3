// Package num is layer 1: whole numbers that do not go over: see shared/doc/01-num.md.
package num

import (
	"math"

	"fusee/api"
)

// Add is a sum.
func Add(a, b int64) (int64, error) {
	if tooHigh(a, b) || tooLow(a, b) {
		return 0, api.ErrRange
	}
	return a + b, nil
}

// Sub is a difference.
func Sub(a, b int64) (int64, error) {
	// The least number has no negative, so that a - b is not always a + -b.
	if b < 0 && a > math.MaxInt64+b || b > 0 && a < math.MinInt64+b {
		return 0, api.ErrRange
	}
	return a - b, nil
}

// Mul is a product.
func Mul(a, b int64) (int64, error) {
	if a == -1 && b == math.MinInt64 || b == -1 && a == math.MinInt64 {
		return 0, api.ErrRange
	}
	p := a * b
	if b != 0 && p/b != a {
		return 0, api.ErrRange
	}
	return p, nil
}

// AddSat is a sum, bounded; SubSat a difference.
func AddSat(a, b int64) int64 {
	if tooHigh(a, b) {
		return math.MaxInt64
	}
	if tooLow(a, b) {
		return math.MinInt64
	}
	return a + b
}

// SubSat is a difference, bounded.
func SubSat(a, b int64) int64 {
	d, err := Sub(a, b)
	if err == nil {
		return d
	}
	if b < 0 {
		return math.MaxInt64
	}
	return math.MinInt64
}

// Div is a quotient, rounded down, and what is left.
func Div(a, b int64) (int64, int64, error) {
	if b < 1 {
		return 0, 0, api.ErrArg
	}
	q, r := a/b, a%b
	if r < 0 {
		q, r = q-1, r+b
	}
	return q, r, nil
}

// Ceil is a quotient, rounded up.
func Ceil(a, b int64) (int64, error) {
	if b < 1 {
		return 0, api.ErrArg
	}
	q := a / b
	if a%b > 0 {
		q++
	}
	return q, nil
}

// Clamp is the nearest number from one to another one.
func Clamp(v, lo, hi int64) int64 {
	if v < lo || hi < lo {
		return lo
	}
	return min(v, hi)
}

// Size is how far a number is from 0, bounded.
func Size(a int64) int64 {
	if a < 0 {
		return SubSat(0, a)
	}
	return a
}

// tooHigh tells whether a sum is above the greatest number.
func tooHigh(a, b int64) bool { return b > 0 && a > math.MaxInt64-b }

// tooLow tells whether a sum is below the least number.
func tooLow(a, b int64) bool { return b < 0 && a < math.MinInt64-b }
