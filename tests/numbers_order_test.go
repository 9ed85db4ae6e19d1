package tests

import (
	"math"
	"math/big"
	"testing"

	"loop.example/heddle/impl"
)

// edgeFloats: floats at and around the places where whole numbers and floats part.
func edgeFloats() []float64 {
	var out []float64
	for _, f := range []float64{0, minusZero, 0.5, -0.5, 1, -1, 1.5, -1.5, 1 << 52, 1 << 53, 1 << 63, 1 << 64, -1 << 52, -1 << 53, -1 << 63, -1 << 64, least, -least, greatest, -greatest} {
		out = append(out, math.Nextafter(f, math.Inf(-1)), f, math.Nextafter(f, math.Inf(1)))
	}
	return out
}

func TestOrderOfFloats(t *testing.T) {
	all := edgeFloats()
	for _, a := range all {
		for _, b := range all {
			if got, want := impl.Order(a, b), new(big.Float).SetFloat64(a).Cmp(new(big.Float).SetFloat64(b)); got != want {
				t.Errorf("%v and %v: %d", a, b, got)
			}
		}
		if impl.Order(a, math.NaN()) != 2 || impl.Order(math.NaN(), a) != 2 {
			t.Errorf("%v and a NaN", a)
		}
	}
	if impl.Order(0, minusZero) != 0 || impl.Order(minusZero, 0) != 0 || impl.Order(math.NaN(), math.NaN()) != 2 || impl.Order(math.Inf(-1), math.Inf(1)) != -1 || impl.Order(math.Inf(1), math.Inf(1)) != 0 {
		t.Error("what is no number")
	}
}

func TestOrderOfIntAndFloat(t *testing.T) {
	for _, n := range edgeInts() {
		for _, f := range edgeFloats() {
			if got, want := impl.OrderInt(n, f), new(big.Float).SetInt64(n).Cmp(new(big.Float).SetFloat64(f)); got != want {
				t.Errorf("%d and %v: %d", n, f, got)
			}
		}
		if impl.OrderInt(n, math.NaN()) != 2 || impl.OrderInt(n, math.Inf(1)) != -1 || impl.OrderInt(n, math.Inf(-1)) != 1 {
			t.Errorf("%d and what is no number", n)
		}
	}
	for _, c := range []struct {
		n    int64
		f    float64
		want int
	}{
		{1<<53 + 1, 1 << 53, 1},
		{1<<53 + 1, 1<<53 + 2, -1},
		{-1<<53 - 1, -1 << 53, -1},
		{mostInt, 1 << 63, -1},
		{mostInt, 1<<63 - 1024, 1},
		{leastInt, -1 << 63, 0},
		{leastInt, -1<<63 - 2048, 1},
		{leastInt + 1, -1 << 63, 1},
		{0, minusZero, 0},
		{0, least, -1},
		{0, -least, 1},
	} {
		if got := impl.OrderInt(c.n, c.f); got != c.want {
			t.Errorf("%d and %v: %d", c.n, c.f, got)
		}
	}
}

func TestFloor(t *testing.T) {
	for _, f := range append(someNumbers(), edgeFloats()...) {
		if f == 0 || math.IsInf(f, 0) {
			continue
		}
		r := ratOf(f)
		// Div rounds down, since a denominator is above 0.
		want, _ := new(big.Float).SetInt(new(big.Int).Div(r.Num(), r.Denom())).Float64()
		if got := impl.Floor(f); !same(got, want) {
			t.Errorf("%v: %v, not %v", f, got, want)
		}
	}
	for _, f := range []float64{0, minusZero, math.Inf(1), math.Inf(-1), math.NaN()} {
		if got := impl.Floor(f); !same(got, f) {
			t.Errorf("%v: %v", f, got)
		}
	}
}

func TestToInt(t *testing.T) {
	for _, f := range append(someNumbers(), edgeFloats()...) {
		if math.IsInf(f, 0) {
			continue
		}
		r := ratOf(f)
		want := impl.Whole{}
		switch {
		case r.Cmp(new(big.Rat).SetInt64(leastInt)) < 0 || r.Cmp(ratOf(1<<63)) >= 0:
			want.Code = 3
		case !r.IsInt():
			want.Code = 2
		default:
			want.Num = r.Num().Int64()
		}
		if got := impl.ToInt(f); got != want {
			t.Errorf("%v: %v, not %v", f, got, want)
		}
	}
	for _, c := range []struct {
		f    float64
		want impl.Whole
	}{
		{minusZero, impl.Whole{}},
		{1<<53 + 2, impl.Whole{Num: 1<<53 + 2}},
		{1<<63 - 1024, impl.Whole{Num: 1<<63 - 1024}},
		{1 << 63, impl.Whole{Code: 3}},
		{-1 << 63, impl.Whole{Num: leastInt}},
		{-1<<63 - 2048, impl.Whole{Code: 3}},
		{math.Inf(1), impl.Whole{Code: 3}},
		{math.Inf(-1), impl.Whole{Code: 3}},
		{math.NaN(), impl.Whole{Code: 3}},
		{least, impl.Whole{Code: 2}},
		{-0.5, impl.Whole{Code: 2}},
	} {
		if got := impl.ToInt(c.f); got != c.want {
			t.Errorf("%v: %v", c.f, got)
		}
	}
}
