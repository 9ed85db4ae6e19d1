package tests

import (
	"math"
	"math/big"
	"strconv"
	"strings"
	"testing"

	"loop.example/heddle/impl"
)

func TestWrittenIsReadBack(t *testing.T) {
	t.Parallel()
	for _, f := range everyFloat() {
		for _, text := range []string{impl.Shortest(f), impl.Exact(f), impl.HexOf(f)} {
			checkRead(t, text, f)
		}
	}
}

func TestWhatIsNoNumber(t *testing.T) {
	for _, c := range []struct {
		f                         float64
		exact, hex, digits, fixed string
	}{
		{0, "0", "0x0p0", "0.00e0", "0.000"},
		{minusZero, "-0", "-0x0p0", "-0.00e0", "-0.000"},
		{math.Inf(1), "inf", "inf", "inf", "inf"},
		{math.Inf(-1), "-inf", "-inf", "-inf", "-inf"},
		{math.NaN(), "nan", "nan", "nan", "nan"},
		{math.Copysign(math.NaN(), -1), "nan", "nan", "nan", "nan"},
	} {
		if impl.Exact(c.f) != c.exact || impl.Shortest(c.f) != c.exact || impl.HexOf(c.f) != c.hex || impl.Digits(c.f, 3) != c.digits || impl.Fixed(c.f, 3) != c.fixed {
			t.Errorf("%v: %s %s %s %s %s", c.f, impl.Exact(c.f), impl.Shortest(c.f), impl.HexOf(c.f), impl.Digits(c.f, 3), impl.Fixed(c.f, 3))
		}
	}
}

func TestExact(t *testing.T) {
	for _, f := range someNumbers() {
		if got, want := impl.Exact(f), decimalOf(ratOf(f)); got != want {
			t.Errorf("%v: %s, not %s", f, got, want)
		}
	}
	tiny := impl.Exact(least)
	if len(tiny) != 1076 || !strings.HasPrefix(tiny, "0.000") || !strings.HasSuffix(tiny, "625") {
		t.Error(tiny)
	}
	if most := impl.Exact(-greatest); len(most) != 310 || !strings.HasPrefix(most, "-1797693134862315708") || strings.Contains(most, ".") {
		t.Error(most)
	}
}

// plainPower: the library's form of a power, e+07, in this program's form, e7.
func plainPower(text string) string {
	ahead, power, ok := strings.Cut(text, "e")
	if !ok {
		return text
	}
	x, _ := strconv.Atoi(power)
	return ahead + "e" + strconv.Itoa(x)
}

func TestShortestForm(t *testing.T) {
	for _, f := range someNumbers() {
		want := plainPower(strconv.FormatFloat(f, 'e', -1, 64))
		if x, _ := strconv.Atoi(want[strings.Index(want, "e")+1:]); x >= -6 && x <= 20 {
			want = strconv.FormatFloat(f, 'f', -1, 64)
		}
		if got := impl.Shortest(f); got != want {
			t.Errorf("%v: %s, not %s", f, got, want)
		}
	}
	for f, want := range map[float64]string{
		1e-6:                            "0.000001",
		math.Nextafter(1e-6, 0):         "9.999999999999997e-7",
		1e-7:                            "1e-7",
		1.5e-7:                          "1.5e-7",
		1e20:                            "100000000000000000000",
		1e21:                            "1e21",
		math.Nextafter(1e21, 0):         "999999999999999900000",
		-123456789012345680000:          "-123456789012345680000",
		1e23:                            "1e23",
		math.Nextafter(1e23, 1):         "9.999999999999997e22",
		100:                             "100",
		0.5:                             "0.5",
		-12.5:                           "-12.5",
		least:                           "5e-324",
		2 * least:                       "1e-323",
		3 * least:                       "1.5e-323",
		-greatest:                       "-1.7976931348623157e308",
		math.Ldexp(1, -44):              "5.684341886080802e-14",
		math.Ldexp(1, 53):               "9007199254740992",
		9007199254740991:                "9007199254740991",
		math.Ldexp(1, -1022):            "2.2250738585072014e-308",
		math.Float64frombits(1<<52 - 1): "2.225073858507201e-308",
	} {
		if got := impl.Shortest(f); got != want {
			t.Errorf("%v: %s, not %s", f, got, want)
		}
	}
}

// TestShortestHasTheFewestDigits: with one digit less, cut off or counted up, another float is told; and with as many, none is nearer.
func TestShortestHasTheFewestDigits(t *testing.T) {
	t.Parallel()
	for _, f := range someNumbers() {
		f = math.Abs(f)
		short := impl.Shortest(f)
		digits := strings.Trim(strings.Replace(strings.Split(short, "e")[0], ".", "", 1), "0")
		all, x := exactDigits(f)
		if len(digits) > 1 {
			for _, n := range neighbours(all, len(digits)-1) {
				text := n + "e" + strconv.Itoa(x-len(digits)+2)
				if got, _ := strconv.ParseFloat(text, 64); got == f {
					t.Errorf("%v: %s, but %s will do", f, short, text)
				}
			}
		}
		for _, n := range neighbours(all, len(digits)) {
			text := n + "e" + strconv.Itoa(x-len(digits)+1)
			if got, _ := strconv.ParseFloat(text, 64); got == f && nearerThan(text, short, f) {
				t.Errorf("%v: %s, but %s is nearer", f, short, text)
			}
		}
	}
}

// exactDigits: all digits of a number, and the power of ten of the first one.
func exactDigits(f float64) (string, int) {
	text := strconv.FormatFloat(f, 'e', 800, 64)
	ahead, power, _ := strings.Cut(text, "e")
	x, _ := strconv.Atoi(power)
	return strings.Replace(ahead, ".", "", 1), x
}

// neighbours: the first n digits, and what is one more.
func neighbours(digits string, n int) []string {
	low, _ := strconv.ParseInt(digits[:n], 10, 64)
	return []string{strconv.FormatInt(low, 10), strconv.FormatInt(low+1, 10)}
}

func nearerThan(a, b string, f float64) bool { return distance(a, f).Cmp(distance(b, f)) < 0 }

func distance(text string, f float64) *big.Rat {
	r, _ := new(big.Rat).SetString(text)
	return r.Abs(r.Sub(r, ratOf(f)))
}

func TestDigits(t *testing.T) {
	for i, f := range someNumbers() {
		for _, n := range []int{1, 2, 5, 15, 16, 17, 18, 400} {
			if n == 400 && i%10 != 0 {
				continue
			}
			if got, want := impl.Digits(f, n), plainPower(strconv.FormatFloat(f, 'e', n-1, 64)); got != want {
				t.Errorf("%v to %d: %s, not %s", f, n, got, want)
			}
		}
	}
	for _, c := range []struct {
		f    float64
		n    int
		want string
	}{
		{0.5, 1, "5e-1"},
		{2.5, 1, "2e0"},
		{3.5, 1, "4e0"},
		{-2.5, 1, "-2e0"},
		{0.125, 2, "1.2e-1"},
		{0.375, 2, "3.8e-1"},
		{12500, 2, "1.2e4"},
		{13500, 2, "1.4e4"},
		{9.5, 1, "1e1"},
		{8.5, 1, "8e0"},
		{99.5, 2, "1.0e2"},
		{-999999, 3, "-1.00e6"},
		{greatest, 1, "2e308"},
		{least, 1, "5e-324"},
		{1, 400, "1." + strings.Repeat("0", 399) + "e0"},
		{0, 1, "0e0"},
		{minusZero, 1, "-0e0"},
		{0, 400, "0." + strings.Repeat("0", 399) + "e0"},
	} {
		if got := impl.Digits(c.f, c.n); got != c.want {
			t.Errorf("%v to %d: %s, not %s", c.f, c.n, got, c.want)
		}
	}
}

func TestFixed(t *testing.T) {
	for i, f := range someNumbers() {
		for _, places := range []int{0, 1, 2, 6, 20, 400} {
			if places == 400 && i%10 != 0 {
				continue
			}
			if got, want := impl.Fixed(f, places), strconv.FormatFloat(f, 'f', places, 64); got != want {
				t.Errorf("%v to %d: %s, not %s", f, places, got, want)
			}
		}
	}
	for _, c := range []struct {
		f      float64
		places int
		want   string
	}{
		{0.5, 0, "0"},
		{1.5, 0, "2"},
		{2.5, 0, "2"},
		{-0.5, 0, "-0"},
		{-1.5, 0, "-2"},
		{0.25, 1, "0.2"},
		{0.75, 1, "0.8"},
		{-0.125, 2, "-0.12"},
		{9.5, 0, "10"},
		{0.96, 1, "1.0"},
		{-0.001, 2, "-0.00"},
		{0.001, 2, "0.00"},
		{-least, 0, "-0"},
		{-least, 323, "-0." + strings.Repeat("0", 323)},
		{-least, 324, "-0." + strings.Repeat("0", 323) + "5"},
		{minusZero, 0, "-0"},
		{minusZero, 400, "-0." + strings.Repeat("0", 400)},
		{0, 0, "0"},
		{12, 400, "12." + strings.Repeat("0", 400)},
		{greatest, 0, impl.Exact(greatest)},
		{1e22, 1, "10000000000000000000000.0"},
	} {
		if got := impl.Fixed(c.f, c.places); got != c.want {
			t.Errorf("%v to %d: %s, not %s", c.f, c.places, got, c.want)
		}
	}
}

func TestWrongPlaces(t *testing.T) {
	for _, f := range []float64{0, minusZero, 1, -1.5, least, greatest, math.Inf(1), math.Inf(-1), math.NaN()} {
		for _, n := range []int{-1, 401, math.MinInt, math.MaxInt} {
			if impl.Digits(f, n) != "" || impl.Fixed(f, n) != "" {
				t.Errorf("%v to %d: %q %q", f, n, impl.Digits(f, n), impl.Fixed(f, n))
			}
		}
		if impl.Digits(f, 0) != "" || impl.Fixed(f, 0) == "" || impl.Digits(f, 1) == "" || impl.Digits(f, 400) == "" || impl.Fixed(f, 400) == "" {
			t.Errorf("%v at the ends", f)
		}
	}
}

func TestHexOf(t *testing.T) {
	for _, f := range someNumbers() {
		p := impl.PartsOf(f)
		want := "0x" + strconv.FormatInt(p.Mant, 16) + "p" + strconv.Itoa(p.Exp)
		if f < 0 {
			want = "-" + want
		}
		if got := impl.HexOf(f); got != want {
			t.Errorf("%v: %s, not %s", f, got, want)
		}
		if back, err := strconv.ParseFloat(want, 64); err != nil || !same(back, f) {
			t.Errorf("%v: %s is read as %v", f, want, back)
		}
	}
	for f, want := range map[float64]string{1: "0x1p0", -12: "-0x3p2", 0.1: "0xccccccccccccdp-55", least: "0x1p-1074", greatest: "0x1fffffffffffffp971", 1 << 53: "0x1p53"} {
		if got := impl.HexOf(f); got != want {
			t.Errorf("%v: %s, not %s", f, got, want)
		}
	}
}
