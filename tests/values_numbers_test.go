package tests

import (
	"cmp"
	"math"
	"math/rand"
	"strings"
	"testing"

	"loop.example/heddle/impl"
)

// P4: each Kind with each field set alone, to what it may be and to what it may not.
func TestValueFields(t *testing.T) {
	type fields struct{ num, flt, str, ref string }
	// Per Kind, what a field may be: "0" nothing but zero, "any", or a range.
	rows := []fields{
		{"0", "0", "0", "0"}, {"bool", "0", "0", "0"}, {"any", "0", "0", "0"}, {"0", "any", "0", "0"}, {"0", "0", "any", "0"},
		{"0", "0", "0", "natural"}, {"0", "0", "0", "natural"}, {"0", "0", "0", "natural"}, {"builtin", "0", "0", "0"},
	}
	may := func(what string, n int64) bool {
		switch what {
		case "0":
			return n == 0
		case "bool":
			return n == 0 || n == 1
		case "natural":
			return n >= 0
		case "builtin":
			return n >= 0 && n <= 14
		}
		return true
	}
	for kind := -2; kind <= 11; kind++ {
		row, is := fields{}, kind >= 0 && kind < len(rows)
		if is {
			row = rows[kind]
		}
		check := func(v impl.Value, fits bool) {
			t.Helper()
			v.Kind = kind
			want := is && fits
			isTrue := want && kind != impl.KNil && !(kind == impl.KBool && v.Num == 0)
			if impl.ValueOk(v) != want || impl.Truth(v) != isTrue {
				t.Errorf("%s: valid %v, true %v", shortly(v), impl.ValueOk(v), impl.Truth(v))
			}
		}
		for _, n := range []int64{0, 1, 2, -1, 13, 14, 15, 1 << 32, leastInt, mostInt} {
			check(impl.Value{Num: n}, may(row.num, n))
			check(impl.Value{Ref: int(n)}, may(row.ref, n))
		}
		for _, f := range []float64{0, minusZero, 1, least, -least, math.Inf(-1), math.NaN()} {
			check(impl.Value{Flt: f}, row.flt == "any" || f == 0)
			check(impl.Value{Flt: f, Ref: 1}, (row.flt == "any" || f == 0) && row.ref == "natural")
		}
		for _, n := range []int{0, 1, 3999, 4000, 4001, 100000} {
			check(impl.Value{Str: strings.Repeat("\x00", n)}, n == 0 || row.str == "any" && n <= 4000)
		}
	}
}

// P4: ints and floats in their order, in both ways around, where rounding would make one number of two.
func TestNumbersInOrder(t *testing.T) {
	floats := append(edgeFloats(), math.Inf(1), math.Inf(-1), math.NaN())
	var numbers []impl.Value
	for _, f := range floats {
		numbers = append(numbers, vFlt(f))
	}
	for _, n := range edgeInts() {
		numbers = append(numbers, vInt(n))
	}
	for _, a := range numbers {
		for _, b := range numbers {
			order := plainCompare(a, b)
			if got := impl.Compare(a, b); got != order {
				t.Errorf("Compare of %v and %v: %d, want %d", a, b, got, order)
			}
			if got := impl.Same(a, b); got != (order == 0) {
				t.Errorf("Same of %v and %v: %v", a, b, got)
			}
		}
	}
	for _, c := range []struct {
		a, b impl.Value
		want int
	}{
		{vInt(9007199254740993), vFlt(9007199254740992), 1}, {vInt(9007199254740993), vFlt(9007199254740994), -1}, {vInt(9007199254740992), vFlt(9007199254740992), 0},
		{vInt(-9007199254740993), vFlt(-9007199254740992), -1}, {vInt(mostInt), vFlt(1 << 63), -1}, {vFlt(1 << 63), vInt(mostInt), 1}, {vInt(leastInt), vFlt(-1 << 63), 0}, {vFlt(-1 << 63), vInt(leastInt + 1), -1},
		{vInt(0), vFlt(minusZero), 0}, {vInt(0), vFlt(-least), 1}, {vFlt(least), vInt(0), 1}, {vInt(mostInt), vFlt(math.Inf(1)), -1}, {vInt(leastInt), vFlt(math.Inf(-1)), 1},
		{vFlt(math.Inf(1)), vFlt(math.Inf(1)), 0}, {vFlt(math.NaN()), vInt(1), 2}, {vInt(1), vFlt(math.NaN()), 2}, {vFlt(math.NaN()), vFlt(math.NaN()), 2}, {vFlt(math.NaN()), vStr("a"), 3},
	} {
		if got := impl.Compare(c.a, c.b); got != c.want || impl.Same(c.a, c.b) != (c.want == 0) {
			t.Errorf("%v and %v: %d, same %v", c.a, c.b, got, impl.Same(c.a, c.b))
		}
	}
}

// P4: strings in their order, byte by byte, and what has no order at all.
func TestStringsInOrder(t *testing.T) {
	ascending := []string{"", "\x00", "\x00\x00", "\x00a", "A", "AA", "Z", "a", "a\x00", "aa", "ab", "a\x7f", "a\x80", "b", "\x7f", "\x80", "é", "\xff", "\xff\x00", strings.Repeat("\xff", 3999), strings.Repeat("\xff", 4000)}
	for i, a := range ascending {
		for j, b := range ascending {
			if got := impl.Compare(vStr(a), vStr(b)); got != cmp.Compare(i, j) || impl.Same(vStr(a), vStr(b)) != (i == j) {
				t.Errorf("%q and %q: %d", shortly(a), shortly(b), got)
			}
		}
		long := vStr(strings.Repeat("\xff", 4001))
		if impl.Compare(vStr(a), long) != 3 || impl.Compare(long, vStr(a)) != 3 || impl.Same(long, long) {
			t.Errorf("%q and one that is too long", shortly(a))
		}
	}
	for _, v := range []impl.Value{{}, vBool(true), vRef(impl.KTable, 1), vRef(impl.KFn, 1), vRef(impl.KTask, 1), vBuiltin(1)} {
		for _, other := range []impl.Value{v, vInt(1), vFlt(1), vStr("1"), vStr("")} {
			if impl.Compare(v, other) != 3 || impl.Compare(other, v) != 3 || impl.Same(v, other) != (v == other) {
				t.Errorf("%v and %v: %d, same %v", v, other, impl.Compare(v, other), impl.Same(v, other))
			}
		}
	}
}

// P4: floats by exact arithmetic that is rounded once; an int beside a float is made one first.
func TestFloatsExactly(t *testing.T) {
	floats := []float64{
		0, minusZero, 1, -1, 0.5, -0.5, 1.5, 2.5, 3, -3, 7, -7.5, 10, 0.1, 0.3, 1.0 / 3, 1 << 53, 1<<53 + 2, -1 << 63, 1e300, -1e300, 1e-300, least, -least, 3 * least, 2.2250738585072014e-308, 2.225073858507201e-308,
		greatest, -greatest, math.Nextafter(1, 2), math.Nextafter(1, 0), math.Inf(1), math.Inf(-1), math.NaN(),
	}
	r := rand.New(rand.NewSource(3))
	for range 40 {
		floats = append(floats, math.Float64frombits(r.Uint64()), r.NormFloat64()*1000)
	}
	check := func(op int, a, b impl.Value, x, y float64) {
		t.Helper()
		if got, want := impl.Binary(op, a, b), exactFloats(op, x, y); !sameValued(got, want) {
			t.Errorf("%d of %v and %v: %v, want %v", op, a, b, got, want)
		}
	}
	for op := impl.OpAdd; op <= impl.OpShr; op++ {
		for _, x := range floats {
			for _, y := range floats {
				check(op, vFlt(x), vFlt(y), x, y)
			}
			for _, n := range []int64{0, 1, -1, 2, -7, 1<<53 + 1, -1<<53 - 1, 1<<54 + 2, 1<<54 + 6, mostInt, leastInt, leastInt + 1} {
				made, _ := plainFloat(vInt(n))
				check(op, vInt(n), vFlt(x), made, x)
				check(op, vFlt(x), vInt(n), x, made)
			}
		}
	}
}

// P4: ints at both ends and by chance; quotients of ints as floats.
func TestIntsExactly(t *testing.T) {
	ints := edgeInts()
	r := rand.New(rand.NewSource(4))
	for range 40 {
		ints = append(ints, int64(r.Uint64()), int64(r.Intn(2000)-1000))
	}
	for _, a := range ints {
		for _, b := range ints {
			for op := impl.OpAdd; op <= impl.OpShr; op++ {
				want := plainInts(op, a, b)
				if op == impl.OpDiv {
					x, _ := plainFloat(vInt(a))
					y, _ := plainFloat(vInt(b))
					want = exactFloats(op, x, y)
				}
				if got := impl.Binary(op, vInt(a), vInt(b)); !sameValued(got, want) {
					t.Errorf("%d of %d and %d: %v, want %v", op, a, b, got, want)
				}
			}
		}
		for op := impl.OpNeg; op <= impl.OpLen; op++ {
			if got, want := impl.Unary(op, vInt(a)), plainUnary(op, vInt(a)); got != want {
				t.Errorf("%d of %d: %v, want %v", op, a, got, want)
			}
		}
		for _, op := range []int{impl.OpShl, impl.OpShr} {
			for by := int64(-2); by <= 70; by++ {
				if got, want := impl.Binary(op, vInt(a), vInt(by)), plainInts(op, a, by); got != want {
					t.Errorf("%d of %d by %d: %v, want %v", op, a, by, got, want)
				}
			}
		}
	}
}

// P4: joins up to the last byte, of strings and of numbers in either place.
func TestJoins(t *testing.T) {
	numbers := []impl.Value{vInt(7), vInt(leastInt), vFlt(1.5), vFlt(minusZero), vFlt(math.NaN()), vFlt(math.Inf(-1)), vFlt(-greatest), vFlt(least)}
	for _, v := range numbers {
		for _, other := range numbers {
			if got := impl.Binary(impl.OpJoin, v, other); !sameValued(got, plainGives(vStr(plainText(v)+plainText(other)))) {
				t.Errorf("%v and %v: %v", v, other, got)
			}
		}
		text := plainText(v)
		for n := 3998 - len(text); n <= 4000; n++ {
			long := vStr(strings.Repeat("\x80", n))
			behind, ahead := plainGives(vStr(long.Str+text)), plainGives(vStr(text+long.Str))
			if n+len(text) > 4000 {
				behind, ahead = plainFails(impl.ErrLong), plainFails(impl.ErrLong)
			}
			if impl.Binary(impl.OpJoin, long, v) != behind || impl.Binary(impl.OpJoin, v, long) != ahead {
				t.Errorf("%s with %d bytes", text, n)
			}
		}
	}
	for _, lens := range [][2]int{{0, 0}, {0, 4000}, {4000, 0}, {2000, 2000}, {1, 3999}, {2000, 2001}, {1, 4000}, {4000, 4000}} {
		got := impl.Binary(impl.OpJoin, vStr(strings.Repeat("a", lens[0])), vStr(strings.Repeat("b", lens[1])))
		want := plainGives(vStr(strings.Repeat("a", lens[0]) + strings.Repeat("b", lens[1])))
		if lens[0]+lens[1] > 4000 {
			want = plainFails(impl.ErrLong)
		}
		if got != want {
			t.Errorf("%v: %s", lens, shortly(got))
		}
	}
	for _, v := range []impl.Value{{}, vBool(false), vRef(impl.KTable, 0), vRef(impl.KFn, 0), vRef(impl.KTask, 0), vBuiltin(0), {Kind: 9}} {
		// What can't be joined at all is told ahead of what is too long.
		long := vStr(strings.Repeat("x", 4000))
		if impl.Binary(impl.OpJoin, v, long) != plainFails(impl.ErrType) || impl.Binary(impl.OpJoin, long, v) != plainFails(impl.ErrType) {
			t.Errorf("%v is joined", v)
		}
	}
}
