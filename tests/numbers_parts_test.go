package tests

import (
	"math"
	"math/big"
	"math/rand"
	"testing"

	"loop.example/heddle/impl"
)

func TestPartsOfWhatIsNoNumber(t *testing.T) {
	for _, c := range []struct {
		f    float64
		want impl.Parts
	}{
		{0, impl.Parts{}},
		{minusZero, impl.Parts{Neg: true}},
		{math.Inf(1), impl.Parts{Kind: impl.FInf}},
		{math.Inf(-1), impl.Parts{Kind: impl.FInf, Neg: true}},
		{math.NaN(), impl.Parts{Kind: impl.FNan}},
		{math.Copysign(math.NaN(), -1), impl.Parts{Kind: impl.FNan}},
		{math.Float64frombits(2047<<52 | 1), impl.Parts{Kind: impl.FNan}},
		{least, impl.Parts{Kind: impl.FNum, Mant: 1, Exp: -1074}},
		{-greatest, impl.Parts{Kind: impl.FNum, Neg: true, Mant: 1<<53 - 1, Exp: 971}},
		{math.Float64frombits(1<<52 - 1), impl.Parts{Kind: impl.FNum, Mant: 1<<52 - 1, Exp: -1074}},
		{math.Float64frombits(1 << 52), impl.Parts{Kind: impl.FNum, Mant: 1, Exp: -1022}},
	} {
		if got := impl.PartsOf(c.f); got != c.want {
			t.Errorf("%v: %v, not %v", c.f, got, c.want)
		}
	}
}

func TestPartsOfNumbers(t *testing.T) {
	for _, f := range someNumbers() {
		p := impl.PartsOf(f)
		if p.Kind != impl.FNum || p.Neg != (f < 0) || p.Mant < 1 || p.Mant&1 == 0 || math.Ldexp(float64(p.Mant), p.Exp) != math.Abs(f) {
			t.Errorf("%v: %v", f, p)
		}
		if got := impl.Near(p.Neg, p.Mant, p.Exp); !same(got, f) {
			t.Errorf("%v comes back as %v", f, got)
		}
	}
}

// nearestFloat: what the library rounds a binary number to, once.
func nearestFloat(neg bool, mant uint64, exp int) float64 {
	x := new(big.Float).SetPrec(64).SetUint64(mant)
	f, _ := x.SetMantExp(x, exp).Float64()
	if neg {
		return -f
	}
	return f
}

func TestNearRoundsOnce(t *testing.T) {
	r := rand.New(rand.NewSource(2))
	for exp := -1150; exp <= 1030; exp++ {
		for range 8 {
			mant := r.Uint64() >> r.Intn(64)
			neg := r.Intn(2) == 0
			if mant == 0 {
				continue
			}
			if got, want := impl.Near(neg, int64(mant), exp), nearestFloat(neg, mant, exp); !same(got, want) {
				t.Errorf("%v %d %d: %v, not %v", neg, mant, exp, got, want)
			}
		}
	}
}

// TestNearInTheMidst: between a float and the next one the midst goes to the even one, all else to the nearer one.
func TestNearInTheMidst(t *testing.T) {
	for _, f := range someNumbers() {
		low := math.Abs(f)
		high := math.Nextafter(low, math.Inf(1))
		mid, exp := midst(low)
		even := low
		if math.Float64bits(low)&1 == 1 {
			even = high
		}
		for _, c := range []struct {
			mant int64
			exp  int
			want float64
		}{
			{mid, exp, even},
			{mid*1024 - 1, exp - 10, low},
			{mid*1024 + 1, exp - 10, high},
		} {
			for _, neg := range []bool{false, true} {
				want := c.want
				if neg {
					want = -want
				}
				if got := impl.Near(neg, c.mant, c.exp); !same(got, want) {
					t.Errorf("around %v: Near(%v, %d, %d) is %v, not %v", low, neg, c.mant, c.exp, got, want)
				}
			}
		}
	}
}

// midst: the number in the midst of a float above 0 and the next one, as mant times 2 to the exp.
func midst(low float64) (mant int64, exp int) {
	b := math.Float64bits(low)
	mant, exp = int64(b&(1<<52-1)), -1074
	if e := int(b >> 52); e > 0 {
		mant, exp = mant+1<<52, e-1075
	}
	return 2*mant + 1, exp - 1
}

func TestNearAtItsEnds(t *testing.T) {
	for _, c := range []struct {
		mant uint64
		exp  int
		want float64
	}{
		{0, 0, 0},
		{0, math.MaxInt, 0},
		{0, math.MinInt, 0},
		{1, math.MinInt, 0},
		{1, math.MaxInt, math.Inf(1)},
		{math.MaxUint64, math.MinInt, 0},
		{math.MaxUint64, math.MaxInt, math.Inf(1)},
		{1, -1074, least},
		{1, -1075, 0},
		{3, -1076, least},
		{3, -1075, 2 * least},
		{5, -1075, 2 * least},
		{1, -1076, 0},
		{1 << 63, -1138, 0},
		{1<<63 + 1, -1138, least},
		{1<<63 - 1, -1138, 0},
		{math.MaxUint64, -1138, least},
		{math.MaxUint64, -1139, 0},
		{math.MaxUint64, -1140, 0},
		{1, 1023, math.Ldexp(1, 1023)},
		{1, 1024, math.Inf(1)},
		{1<<53 - 1, 971, greatest},
		{1<<54 - 1, 970, math.Inf(1)},
		{(1<<54-1)<<10 - 1, 960, greatest},
		{(1<<54-1)<<10 + 1, 960, math.Inf(1)},
		{1 << 63, 0, 1 << 63},
		{math.MaxUint64, 0, 1 << 64},
	} {
		if got := impl.Near(false, int64(c.mant), c.exp); !same(got, c.want) {
			t.Errorf("%d %d: %v, not %v", c.mant, c.exp, got, c.want)
		}
		if got := impl.Near(true, int64(c.mant), c.exp); !same(got, math.Copysign(c.want, -1)) {
			t.Errorf("- %d %d: %v", c.mant, c.exp, got)
		}
	}
}

func TestBits(t *testing.T) {
	for _, f := range append(someNumbers(), 0, minusZero, math.Inf(1), math.Inf(-1)) {
		n := impl.BitsOf(f)
		if n != int64(math.Float64bits(f)) || !same(impl.FromBits(n), f) {
			t.Errorf("%v: %d", f, n)
		}
	}
	for _, n := range []int64{-1, mostInt, 2047<<52 | 1, 2047<<52 | 1<<51, leastInt | 2047<<52 | 5} {
		f := impl.FromBits(n)
		if !math.IsNaN(f) || impl.BitsOf(f) != 2047<<52+1<<51 {
			t.Errorf("%d: %v", n, f)
		}
	}
	for n, want := range map[int64]float64{0: 0, leastInt: minusZero, 1: least, 1<<52 - 1: math.Ldexp(1<<52-1, -1074), 1 << 52: math.Ldexp(1, -1022), 2047 << 52: math.Inf(1), 2047<<52 - 1: greatest, leastInt | 1023<<52: -1} {
		if got := impl.FromBits(n); !same(got, want) {
			t.Errorf("%d: %v", n, got)
		}
	}
}

func TestAbove(t *testing.T) {
	for _, f := range someNumbers() {
		if got, want := impl.Above(f), math.Nextafter(f, math.Inf(1)); !same(got, want) {
			t.Errorf("%v: %v, not %v", f, got, want)
		}
	}
	for _, c := range [][2]float64{{0, least}, {minusZero, least}, {greatest, math.Inf(1)}, {-least, minusZero}, {math.Inf(1), math.Inf(1)}, {math.Inf(-1), -greatest}, {math.NaN(), math.NaN()}, {impl.FromBits(mostInt), math.NaN()}, {impl.FromBits(-1), math.NaN()}} {
		if got := impl.Above(c[0]); !same(got, c[1]) {
			t.Errorf("%v: %v, not %v", c[0], got, c[1])
		}
	}
}
