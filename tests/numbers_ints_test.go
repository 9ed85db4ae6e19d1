package tests

import (
	"math"
	"math/big"
	"strings"
	"testing"

	"loop.example/heddle/impl"
)

var wrongBases = []int{1, 0, -1, -2, -16, 37, 38, 256, math.MinInt, math.MaxInt}

func TestReadIntRefusesBaseAndLength(t *testing.T) {
	for _, base := range wrongBases {
		for _, text := range []string{"1", "", "-", "99999999999999999999"} {
			if got := impl.ReadInt(text, base); got != (impl.Whole{Code: 1}) {
				t.Errorf("%q in base %d: %v", text, base, got)
			}
		}
	}
	for _, c := range []struct {
		text string
		want impl.Whole
	}{
		{strings.Repeat("0", 1199) + "7", impl.Whole{Num: 7}},
		{"-" + strings.Repeat("0", 1198) + "7", impl.Whole{Num: -7}},
		{strings.Repeat("1", 1200), impl.Whole{Code: 3}},
		{strings.Repeat("1", 1199) + "x", impl.Whole{Code: 2}},
		{strings.Repeat("0", 1201), impl.Whole{Code: 1}},
		{strings.Repeat("x", 1201), impl.Whole{Code: 1}},
	} {
		if got := impl.ReadInt(c.text, 10); got != c.want {
			t.Errorf("%d bytes: %v, not %v", len(c.text), got, c.want)
		}
	}
}

func TestReadIntRefusesForm(t *testing.T) {
	for _, c := range []struct {
		text string
		base int
	}{
		{"", 10}, {"+", 10}, {"-", 10}, {"+-1", 10}, {"--1", 10}, {"1-", 10}, {" 1", 10}, {"1 ", 10}, {"1_0", 10}, {"1.0", 10}, {"1e1", 10},
		{"a", 10}, {"2", 2}, {"12", 2}, {"8", 8}, {"g", 16}, {"0x10", 16}, {"A", 16}, {"Z", 36}, {"{", 36}, {"/", 36}, {":", 36}, {"`", 36}, {"é", 36}, {"1\x00", 10},
		{"99999999999999999999x", 10}, {"-99999999999999999999 ", 10},
	} {
		if got := impl.ReadInt(c.text, c.base); got != (impl.Whole{Code: 2}) {
			t.Errorf("%q in base %d: %v", c.text, c.base, got)
		}
	}
}

func TestReadIntAtItsLimits(t *testing.T) {
	for base := 2; base <= 36; base++ {
		for d := int64(-3); d <= 3; d++ {
			for _, end := range []int64{leastInt, mostInt} {
				n := new(big.Int).Add(big.NewInt(end), big.NewInt(d))
				want := impl.Whole{Code: 3}
				if n.IsInt64() {
					want = impl.Whole{Num: n.Int64()}
				}
				if got := impl.ReadInt(n.Text(base), base); got != want {
					t.Errorf("%s in base %d: %v", n.Text(base), base, got)
				}
			}
		}
		// 2^64 and what would be small again when wrapped
		for _, d := range []int64{0, 1, 5} {
			n := new(big.Int).Lsh(big.NewInt(1), 64)
			n.Add(n, big.NewInt(d))
			if got := impl.ReadInt(n.Text(base), base); got != (impl.Whole{Code: 3}) {
				t.Errorf("%s in base %d: %v", n.Text(base), base, got)
			}
		}
	}
}

func TestReadIntSigns(t *testing.T) {
	for text, want := range map[string]int64{"+5": 5, "-5": -5, "-0": 0, "+0": 0, "0005": 5, "+zz": 1295, "-z": -35} {
		if got := impl.ReadInt(text, 36); got != (impl.Whole{Num: want}) {
			t.Errorf("%s: %v", text, got)
		}
	}
	if got := impl.ReadInt("+9223372036854775807", 10); got != (impl.Whole{Num: mostInt}) {
		t.Error(got)
	}
}

func TestWriteIntAndBits(t *testing.T) {
	for _, n := range edgeInts() {
		whole := big.NewInt(n)
		unsigned := new(big.Int).SetUint64(uint64(n))
		for base := 2; base <= 36; base++ {
			text := impl.WriteInt(n, base)
			if text != whole.Text(base) {
				t.Errorf("%d in base %d: %s", n, base, text)
			}
			if got := impl.ReadInt(text, base); got != (impl.Whole{Num: n}) {
				t.Errorf("%s in base %d is read as %v", text, base, got)
			}
			if text := impl.WriteBits(n, base); text != unsigned.Text(base) {
				t.Errorf("bits of %d in base %d: %s", n, base, text)
			}
		}
		for _, base := range wrongBases {
			if impl.WriteInt(n, base) != "" || impl.WriteBits(n, base) != "" {
				t.Errorf("%d in base %d", n, base)
			}
		}
	}
}

// wrapped: a whole number modulo 2^64, as one with a sign.
func wrapped(n *big.Int) int64 {
	return int64(new(big.Int).And(n, new(big.Int).SetUint64(math.MaxUint64)).Uint64())
}

func TestDivide(t *testing.T) {
	for _, a := range edgeInts() {
		for _, b := range edgeInts() {
			got := impl.Divide(a, b)
			if b == 0 {
				if got != (impl.Divided{Code: 1}) {
					t.Errorf("%d by 0: %v", a, got)
				}
				continue
			}
			// Div rounds down when the divisor is above 0.
			x, y := big.NewInt(a), big.NewInt(b)
			if b < 0 {
				x.Neg(x)
				y.Neg(y)
			}
			quot := new(big.Int).Div(x, y)
			rest := new(big.Int).Sub(big.NewInt(a), new(big.Int).Mul(big.NewInt(b), quot))
			if want := (impl.Divided{Quot: wrapped(quot), Rest: wrapped(rest)}); got != want {
				t.Errorf("%d by %d: %v, not %v", a, b, got, want)
			}
		}
	}
	if got := impl.Divide(leastInt, -1); got != (impl.Divided{Quot: leastInt}) {
		t.Error(got)
	}
}

func TestShift(t *testing.T) {
	for _, n := range edgeInts() {
		for by := -70; by <= 70; by++ {
			want := new(big.Int).SetUint64(uint64(n))
			if by >= 0 {
				want.Lsh(want, uint(by))
			} else {
				want.Rsh(want, uint(-by))
			}
			if got := impl.Shift(n, by); got != wrapped(want) {
				t.Errorf("%d by %d: %d", n, by, got)
			}
		}
		for _, by := range []int{math.MinInt, math.MinInt + 1, math.MaxInt, 1 << 32, -1 << 32, 128, -128} {
			if got := impl.Shift(n, by); got != 0 {
				t.Errorf("%d by %d: %d", n, by, got)
			}
		}
	}
	if impl.Shift(1, 63) != leastInt || impl.Shift(-1, -63) != 1 || impl.Shift(-1, 64) != 0 || impl.Shift(-1, -64) != 0 || impl.Shift(-8, -1) != mostInt-3 {
		t.Error("at the ends")
	}
}
