package tests

import (
	"math"
	"math/big"
	"math/rand"
	"regexp"
	"strconv"
	"strings"
	"testing"

	"loop.example/heddle/impl"
)

var floatForm = regexp.MustCompile(`^[+-]?(inf|nan|[0-9]+(\.[0-9]+)?(e[+-]?[0-9]+)?|0x[0-9a-f]+(\.[0-9a-f]+)?(p[+-]?[0-9]+)?)$`)

// faultOf: by trying all that can be missing, the first place at which no float goes on like a text; -1 when it is one.
func faultOf(text string) int {
	if floatForm.MatchString(text) {
		return -1
	}
	goesOn := func(piece string) bool {
		for _, end := range []string{"", "0", "inf", "nf", "f", "nan", "an", "n"} {
			if floatForm.MatchString(piece + end) {
				return true
			}
		}
		return false
	}
	for i := range len(text) {
		if !goesOn(text[:i+1]) {
			return i
		}
	}
	return len(text)
}

func checkForm(t *testing.T, text string) {
	got := impl.ReadFlt(text)
	at := faultOf(text)
	if at < 0 && (!got.Ok || got.At != 0) || at >= 0 && (got.Ok || got.At != at || !same(got.Flt, 0)) {
		t.Errorf("%q: %v, fault at %d", text, got, at)
	}
}

func TestReadFltForm(t *testing.T) {
	const marks = "01aefpx.+-in"
	var grow func(text string, more int)
	grow = func(text string, more int) {
		checkForm(t, text)
		for i := 0; more > 0 && i < len(marks); i++ {
			grow(text+marks[i:i+1], more-1)
		}
	}
	grow("", 4)
	r := rand.New(rand.NewSource(3))
	for _, whole := range []string{"-12.345e+67", "0x1f.8p-10", "+inf", "-nan", "0e0", "123456789", "0xabcdefp5"} {
		for i := range whole {
			checkForm(t, whole[:i])
			for b := range 256 {
				checkForm(t, whole[:i]+string([]byte{byte(b)})+whole[i:])
				checkForm(t, whole[:i]+string([]byte{byte(b)})+whole[i+1:])
			}
		}
		for range 200 {
			i, j := r.Intn(len(whole)), r.Intn(len(whole))
			checkForm(t, whole[:i]+whole[j:])
		}
	}
}

func TestReadFltRefuses(t *testing.T) {
	for text, at := range map[string]int{
		"":                                     0,
		"+":                                    1,
		"-":                                    1,
		"--1":                                  1,
		" 1":                                   0,
		"1 ":                                   1,
		"0x":                                   2,
		"-0x":                                  3,
		"0xp1":                                 2,
		"0x.8":                                 2,
		"0x1.":                                 4,
		"0x1.p":                                4,
		"0x1p":                                 4,
		"0x1p-":                                5,
		"0x1pf":                                4,
		"0x1P1":                                3,
		"0X1":                                  1,
		"00x1":                                 2,
		"1.":                                   2,
		"1.e5":                                 2,
		"1.5.5":                                3,
		".5":                                   0,
		"e5":                                   0,
		"1e":                                   2,
		"1e-":                                  3,
		"1e+-5":                                3,
		"1e5.5":                                3,
		"1e5e5":                                3,
		"1E5":                                  1,
		"1p5":                                  1,
		"1_0":                                  1,
		"Inf":                                  0,
		"inF":                                  2,
		"infinite":                             3,
		"nan0":                                 3,
		"n":                                    1,
		"12345x":                               5,
		"1e99999x":                             7,
		"é":                                    0,
		strings.Repeat("1", 1201):              1200,
		strings.Repeat("x", 1201):              1200,
		strings.Repeat("1", 1199):              -1,
		strings.Repeat("1", 1200):              -1,
		strings.Repeat("1", 1200)[:1199] + "e": 1200,
		strings.Repeat("1", 1199) + "x":        1199,
	} {
		got := impl.ReadFlt(text)
		if at < 0 && !got.Ok || at >= 0 && (got.Ok || got.At != at || !same(got.Flt, 0)) {
			t.Errorf("%.40q: %v, fault at %d", text, got, at)
		}
	}
}

func checkRead(t *testing.T, text string, want float64) {
	t.Helper()
	got := impl.ReadFlt(text)
	if !got.Ok || got.At != 0 || !same(got.Flt, want) {
		t.Errorf("%.60q (%d bytes): %v, not %v", text, len(text), got, want)
	}
}

func TestReadFltWords(t *testing.T) {
	for text, want := range map[string]float64{
		"inf": math.Inf(1), "+inf": math.Inf(1), "-inf": math.Inf(-1), "nan": math.NaN(), "+nan": math.NaN(), "-nan": math.NaN(),
		"0": 0, "+0": 0, "-0": minusZero, "-0.000": minusZero, "0x0": 0, "-0x0p5": minusZero, "-0e5": minusZero,
	} {
		checkRead(t, text, want)
	}
}

func TestReadFltFarPowers(t *testing.T) {
	nines := strings.Repeat("9", 1000)
	zeros := strings.Repeat("0", 1100)
	for text, want := range map[string]float64{
		"1e" + nines:                    math.Inf(1),
		"-1e+" + nines:                  math.Inf(-1),
		"1e-" + nines:                   0,
		"-1e-" + nines:                  minusZero,
		"0e" + nines:                    0,
		"-0.0e" + nines:                 minusZero,
		"0x1p" + nines:                  math.Inf(1),
		"-0x1p-" + nines:                minusZero,
		"0x0p" + nines:                  0,
		"1e18446744073709551616":        math.Inf(1),
		"1e-9223372036854775808":        0,
		"1e4294967296":                  math.Inf(1),
		"0." + zeros + "1e1101":         1,
		"0." + zeros + "1e1409":         1e308,
		"0." + zeros + "1e1410":         math.Inf(1),
		"1" + zeros + "e-1100":          1,
		"1" + zeros + "e-1423":          1e-323,
		"1" + zeros + "e-1424":          0,
		"5" + zeros + "e-1424":          least,
		"0x0." + zeros + "1p4404":       1,
		"0x1" + zeros + "p-4400":        1,
		"0x1" + zeros + "p-5474":        least,
		"0x1" + zeros + "p-5475":        0,
		"0x0." + zeros + "1p5427":       math.Ldexp(1, 1023),
		"0x0." + zeros + "1p5428":       math.Inf(1),
		"1e0000000000000000000001":      10,
		"1e-0":                          1,
		"0x1p-00":                       1,
		strings.Repeat("9", 308):        1e308,
		strings.Repeat("9", 309):        math.Inf(1),
		strings.Repeat("0", 1199) + "1": 1,
	} {
		checkRead(t, text, want)
	}
}

// plusTiny and minusTiny: a decimal just above and just below another one, which is above 0.
func plusTiny(decimal string) string {
	if !strings.Contains(decimal, ".") {
		decimal += "."
	}
	return decimal + "0001"
}

func minusTiny(decimal string) string {
	whole, behind, _ := strings.Cut(decimal, ".")
	n, _ := new(big.Int).SetString(whole+behind, 10)
	digits := n.Sub(n, big.NewInt(1)).String()
	digits = strings.Repeat("0", max(len(behind)+1-len(digits), 0)) + digits
	return digits[:len(digits)-len(behind)] + "." + digits[len(digits)-len(behind):] + "9999"
}

func TestReadFltInTheMidst(t *testing.T) {
	for i, f := range someNumbers() {
		// The decimals of very small ones have more than a thousand bytes: some of them will do.
		if math.Abs(f) < 1e-100 && i%10 != 0 {
			continue
		}
		low := math.Abs(f)
		high := math.Nextafter(low, math.Inf(1))
		even := low
		if math.Float64bits(low)&1 == 1 {
			even = high
		}
		mant, exp := midst(low)
		text := decimalOf(ratOfBinary(mant, exp))
		checkRead(t, text, even)
		checkRead(t, "-"+text, -even)
		checkRead(t, minusTiny(text), low)
		checkRead(t, plusTiny(text), high)
		hex := "0x" + strconv.FormatInt(mant, 16)
		below := "0x" + strconv.FormatInt(mant-1, 16) + ".ffffffff"
		power := "p" + strconv.Itoa(exp)
		checkRead(t, hex+power, even)
		checkRead(t, "-"+hex+power, -even)
		checkRead(t, hex+"."+strings.Repeat("0", 900)+"1"+power, high)
		checkRead(t, below+power, low)
	}
}

func ratOfBinary(mant int64, exp int) *big.Rat {
	power := new(big.Int).Lsh(big.NewInt(1), uint(max(exp, -exp)))
	r := new(big.Rat).SetInt(power)
	if exp < 0 {
		r.Inv(r)
	}
	return r.Mul(r, new(big.Rat).SetInt64(mant))
}

func TestReadFltAtItsEnds(t *testing.T) {
	end := new(big.Int).Sub(new(big.Int).Lsh(big.NewInt(1), 1024), new(big.Int).Lsh(big.NewInt(1), 970))
	below := new(big.Int).Sub(end, big.NewInt(1)).String()
	checkRead(t, end.String(), math.Inf(1))
	checkRead(t, "-"+end.String(), math.Inf(-1))
	checkRead(t, end.String()+"."+strings.Repeat("0", 800)+"1", math.Inf(1))
	checkRead(t, below, greatest)
	checkRead(t, below+"."+strings.Repeat("9", 890), greatest)
	checkRead(t, "-"+below, -greatest)
	checkRead(t, "0x3fffffffffffffp970", math.Inf(1))
	checkRead(t, "0x3ffffffffffffep970", greatest)
	checkRead(t, "0x3ffffffffffffe."+strings.Repeat("f", 1000)+"p970", greatest)
	checkRead(t, "-0x1p-1075", minusZero)
	checkRead(t, "0x1."+strings.Repeat("0", 1000)+"1p-1075", least)
	checkRead(t, "0x0."+strings.Repeat("f", 1000)+"p-1075", 0)
	half := decimalOf(ratOfBinary(1, -1075))
	checkRead(t, half, 0)
	checkRead(t, half+"1", least)
	checkRead(t, minusTiny(half), 0)
}

// TestReadFltAsTheLibrary: what the library, which rounds once as well, reads in such texts.
func TestReadFltAsTheLibrary(t *testing.T) {
	r := rand.New(rand.NewSource(4))
	digits := func(marks string, most int) string {
		b := make([]byte, 1+r.Intn(most))
		for i := range b {
			b[i] = marks[r.Intn(len(marks))]
		}
		return string(b)
	}
	for range 20000 {
		most := 1 + r.Intn(25)
		decimal := digits("0123456789", most) + "." + digits("0123456789", most) + "e" + strconv.Itoa(r.Intn(700)-350)
		want, _ := strconv.ParseFloat(decimal, 64)
		checkRead(t, decimal, want)
		hex := "0x" + digits("0123456789abcdef", most) + "." + digits("0123456789abcdef", most) + "p" + strconv.Itoa(r.Intn(2300)-1150)
		want, _ = strconv.ParseFloat(hex, 64)
		checkRead(t, hex, want)
	}
	for range 300 {
		long := digits("0123456789", 1150) + "e-800"
		// The library reads only 800 digits of a whole number rightly: an exact fraction tells the long ones.
		exact, _ := new(big.Rat).SetString(long)
		want, _ := exact.Float64()
		checkRead(t, long, want)
	}
}
