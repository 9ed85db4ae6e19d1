package tests

import (
	"math"
	"math/big"
	"math/rand"
	"strconv"
	"strings"
)

const (
	leastInt = math.MinInt64
	mostInt  = math.MaxInt64
	least    = math.SmallestNonzeroFloat64
	greatest = math.MaxFloat64
)

var minusZero = math.Copysign(0, -1)

// edgeInts: whole numbers at and around the places where something changes.
func edgeInts() []int64 {
	var out []int64
	for _, n := range []int64{0, 1 << 31, 1 << 52, 1 << 53, 1 << 62, mostInt, leastInt, -1 << 53, -1 << 62} {
		for d := int64(-4); d <= 4; d++ {
			out = append(out, n+d)
		}
	}
	return out
}

// someNumbers: floats that are neither zeros nor infinities nor NaN, of both signs: all powers of two and of ten with their neighbours,
// the least and the greatest, the border at which E becomes 0, and others by a fixed seed.
func someNumbers() []float64 {
	sizes := []float64{0.1, 0.5, 1.5, 2.5, 12345, 9007199254740993, 0.3, 1.0 / 3, 2.2250738585072014e-308, 2.225073858507201e-308, greatest}
	for e := -1074; e <= 1023; e++ {
		p := math.Ldexp(1, e)
		sizes = append(sizes, math.Nextafter(p, 0), p, math.Nextafter(p, math.Inf(1)))
	}
	for x := -323; x <= 308; x++ {
		p, _ := strconv.ParseFloat("1e"+strconv.Itoa(x), 64)
		sizes = append(sizes, math.Nextafter(p, 0), p, math.Nextafter(p, math.Inf(1)))
	}
	r := rand.New(rand.NewSource(1))
	for range 3000 {
		sizes = append(sizes, math.Float64frombits(r.Uint64()>>1), math.Float64frombits(r.Uint64()>>12), r.Float64(), float64(r.Int63n(1<<20)))
	}
	var out []float64
	for i, f := range sizes {
		if f == 0 || math.IsInf(f, 0) || math.IsNaN(f) {
			continue
		}
		if i%3 == 0 {
			f = -f
		}
		out = append(out, f)
	}
	return out
}

// everyFloat: someNumbers, and all floats that are no numbers.
func everyFloat() []float64 {
	return append(someNumbers(), 0, minusZero, math.Inf(1), math.Inf(-1), math.NaN())
}

func same(a, b float64) bool {
	return math.Float64bits(a) == math.Float64bits(b) || math.IsNaN(a) && math.IsNaN(b)
}

func ratOf(f float64) *big.Rat { return new(big.Rat).SetFloat64(f) }

// decimalOf: a number whose denominator is a power of two, in decimal without zeros behind the last digit.
func decimalOf(r *big.Rat) string {
	s := r.FloatString(r.Denom().BitLen())
	if strings.Contains(s, ".") {
		s = strings.TrimRight(strings.TrimRight(s, "0"), ".")
	}
	return s
}
