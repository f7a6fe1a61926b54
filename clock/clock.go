// Package clock: time that runs unlike: see doc/01-clock.md.
package clock

import (
	"math"

	"tenancy/api"
)

const (
	whole   = 1000 // eps counts parts of so many
	mostEps = 500
)

// Add is the sum of a and b, at most the greatest int.
func Add(a, b int) int {
	return orZero(func() int {
		mustBe(a, 0, math.MaxInt)
		mustBe(b, 0, math.MaxInt)
		return a + min(b, math.MaxInt-a)
	})
}

// Short is how long to count by one's own clock to be done ahead of whoever counts term by another one.
func Short(term, eps int) int {
	return orZero(func() int {
		mustCount(term, eps)
		return term * (whole - eps) / (whole + eps)
	})
}

// Long is how long to count by one's own clock to be done behind whoever counts term by another one.
func Long(term, eps int) int {
	return orZero(func() int {
		mustCount(term, eps)
		return upBy(term*(whole+eps), whole-eps)
	})
}

// Fits says whether a clock may gain so much while real time goes on by so much.
func Fits(by, gain, eps int) bool {
	return orZero(func() bool {
		mustCount(by, eps)
		mustBe(gain, 0, math.MaxInt)
		// The bounds are brought down to gain's size: gain times whole may be beyond an int.
		return upBy(by*(whole-eps), whole) <= gain && gain <= by*(whole+eps)/whole
	})
}

// upBy is n by d, rounded up.
func upBy(n, d int) int {
	return (n + d - 1) / d
}

// mustCount panics where a span of time or an eps may not be.
func mustCount(span, eps int) {
	mustBe(span, 0, api.MaxTime)
	mustBe(eps, 0, mostEps)
}

// mustBe panics where v is not from least to most.
func mustBe(v, least, most int) {
	if v < least || v > most {
		panic("clock: an argument may not be")
	}
}

// orZero is what f answers; its zero value where f panics, since nothing was answered by then.
func orZero[T any](f func() T) (answer T) {
	defer func() { _ = recover() }()
	return f()
}
