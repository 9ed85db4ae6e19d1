package tests

import (
	"math"
	"strings"
	"testing"

	"loop.example/heddle/impl"
)

// P4: which values are valid, and which of these are true.
func TestValuesValid(t *testing.T) {
	for _, v := range validValues() {
		if !impl.ValueOk(v) || impl.Truth(v) != plainTruth(v) {
			t.Errorf("%s: valid %v, true %v", shortly(v), impl.ValueOk(v), impl.Truth(v))
		}
	}
	for _, v := range wrongValues() {
		if impl.ValueOk(v) || impl.Truth(v) || impl.Text(v) != "" {
			t.Errorf("%s: valid %v, true %v, %q", shortly(v), impl.ValueOk(v), impl.Truth(v), impl.Text(v))
		}
	}
	for _, v := range []impl.Value{vInt(0), vFlt(0), vFlt(math.NaN()), vStr(""), vBuiltin(0), vRef(impl.KTable, 0)} {
		if !impl.Truth(v) {
			t.Error("not true:", v)
		}
	}
}

// P4: Same, Compare, Unary and Binary of every pair of values, valid or not, with every operation and some that are none.
func TestValueOperations(t *testing.T) {
	values := append(validValues(), wrongValues()...)
	for _, a := range values {
		for op := -3; op <= 30; op++ {
			want := plainFails(1)
			if op >= 19 && op <= 22 {
				want = plainUnary(op, a)
			}
			if got := impl.Unary(op, a); !sameValued(got, want) {
				t.Errorf("Unary %d of %s: %s, want %s", op, shortly(a), shortly(got), shortly(want))
			}
		}
		for _, b := range values {
			if got, want := impl.Same(a, b), plainSame(a, b); got != want {
				t.Errorf("Same of %s and %s: %v", shortly(a), shortly(b), got)
			}
			if got, want := impl.Compare(a, b), plainCompare(a, b); got != want {
				t.Errorf("Compare of %s and %s: %v, want %v", shortly(a), shortly(b), got, want)
			}
			for op := 0; op <= 23; op++ {
				want := plainFails(1)
				if op >= 1 && op <= 18 {
					want = plainBinary(op, a, b)
				}
				if got := impl.Binary(op, a, b); !sameValued(got, want) {
					t.Errorf("Binary %d of %s and %s: %s, want %s", op, shortly(a), shortly(b), shortly(got), shortly(want))
				}
			}
		}
	}
	for _, op := range []int{math.MinInt, -1, 1<<32 + 1, math.MaxInt} {
		if got := impl.Binary(op, vInt(1), vInt(1)); got != plainFails(1) {
			t.Errorf("Binary %d: %v", op, got)
		}
	}
}

// P4: the edges that the document names, in its own words.
func TestValueOperationEdges(t *testing.T) {
	for _, c := range []struct {
		op   int
		a, b impl.Value
		want impl.Valued
	}{
		{impl.OpAdd, vInt(mostInt), vInt(1), plainGives(vInt(leastInt))},
		{impl.OpAdd, vInt(mostInt), vFlt(0), plainGives(vFlt(1 << 63))},
		{impl.OpAdd, vInt(1<<53 + 1), vFlt(0), plainGives(vFlt(1 << 53))},
		{impl.OpDiv, vInt(7), vInt(2), plainGives(vFlt(3.5))},
		{impl.OpDiv, vInt(1), vInt(0), plainGives(vFlt(math.Inf(1)))},
		{impl.OpIDiv, vInt(-7), vInt(2), plainGives(vInt(-4))},
		{impl.OpIDiv, vInt(leastInt), vInt(-1), plainGives(vInt(leastInt))},
		{impl.OpIDiv, vInt(1), vInt(0), plainFails(impl.ErrZero)},
		{impl.OpIDiv, vInt(1), vFlt(0), plainGives(vFlt(math.Inf(1)))},
		{impl.OpIDiv, vFlt(-7), vInt(2), plainGives(vFlt(-4))},
		{impl.OpMod, vInt(-7), vInt(2), plainGives(vInt(1))},
		{impl.OpMod, vInt(7), vInt(-2), plainGives(vInt(-1))},
		{impl.OpMod, vInt(leastInt), vInt(-1), plainGives(vInt(0))},
		{impl.OpMod, vInt(1), vInt(0), plainFails(impl.ErrZero)},
		{impl.OpMod, vFlt(-7), vInt(2), plainGives(vFlt(1))},
		{impl.OpMod, vFlt(1), vInt(0), plainGives(vFlt(math.NaN()))},
		{impl.OpMod, vFlt(1), vFlt(math.Inf(1)), plainGives(vFlt(math.NaN()))},
		{impl.OpShl, vInt(1), vInt(63), plainGives(vInt(leastInt))},
		{impl.OpShl, vInt(1), vInt(64), plainGives(vInt(0))},
		{impl.OpShl, vInt(1), vInt(mostInt), plainGives(vInt(0))},
		{impl.OpShl, vInt(1), vInt(-1), plainFails(impl.ErrRange)},
		{impl.OpShr, vInt(-1), vInt(63), plainGives(vInt(1))},
		{impl.OpShr, vInt(-1), vInt(64), plainGives(vInt(0))},
		{impl.OpShr, vInt(-1), vInt(leastInt), plainFails(impl.ErrRange)},
		{impl.OpShr, vInt(1), vFlt(1), plainFails(impl.ErrType)},
		{impl.OpJoin, vInt(-5), vFlt(1.5), plainGives(vStr("-53p-1"))},
		{impl.OpJoin, vFlt(minusZero), vStr("x"), plainGives(vStr("-0p0x"))},
		{impl.OpJoin, vStr("x"), vBool(true), plainFails(impl.ErrType)},
		{impl.OpJoin, vStr("x"), impl.Value{}, plainFails(impl.ErrType)},
		{impl.OpEq, vInt(1), vFlt(1), plainGives(vBool(true))},
		{impl.OpEq, vFlt(0), vFlt(minusZero), plainGives(vBool(true))},
		{impl.OpEq, vFlt(math.NaN()), vFlt(math.NaN()), plainGives(vBool(false))},
		{impl.OpNe, vFlt(math.NaN()), vFlt(math.NaN()), plainGives(vBool(true))},
		{impl.OpEq, vInt(9007199254740993), vFlt(9007199254740992), plainGives(vBool(false))},
		{impl.OpGt, vInt(9007199254740993), vFlt(9007199254740992), plainGives(vBool(true))},
		{impl.OpLt, vFlt(9007199254740992), vInt(9007199254740993), plainGives(vBool(true))},
		{impl.OpLe, vFlt(math.NaN()), vInt(1), plainGives(vBool(false))},
		{impl.OpGe, vFlt(math.NaN()), vInt(1), plainGives(vBool(false))},
		{impl.OpLt, vStr("a"), vStr("ab"), plainGives(vBool(true))},
		{impl.OpLt, vStr("Z"), vStr("a"), plainGives(vBool(true))},
		{impl.OpLt, vStr("1"), vInt(2), plainFails(impl.ErrType)},
		{impl.OpLe, impl.Value{}, impl.Value{}, plainFails(impl.ErrType)},
	} {
		if got := impl.Binary(c.op, c.a, c.b); !sameValued(got, c.want) {
			t.Errorf("Binary %d of %v and %v: %v, want %v", c.op, c.a, c.b, got, c.want)
		}
	}
	long := vStr(strings.Repeat("x", 3999))
	if got := impl.Binary(impl.OpJoin, long, vInt(7)); got.Code != 0 || len(got.Value.Str) != 4000 {
		t.Error("4000 bytes:", got.Code, len(got.Value.Str))
	}
	if got := impl.Binary(impl.OpJoin, vInt(77), long); got != plainFails(impl.ErrLong) {
		t.Error("4001 bytes:", got.Code, len(got.Value.Str))
	}
}

// P4: Text of every float, and of one value of each Kind.
func TestValueTexts(t *testing.T) {
	for _, v := range validValues() {
		if got := impl.Text(v); got != plainText(v) {
			t.Errorf("%s: %q, want %q", shortly(v), got, plainText(v))
		}
	}
	for _, f := range everyFloat() {
		if got := impl.Text(vFlt(f)); got != plainFloatText(f) {
			t.Errorf("%v: %q, want %q", f, got, plainFloatText(f))
		}
	}
	for text, v := range map[string]impl.Value{
		"nil": {}, "true": vBool(true), "false": vBool(false), "-5": vInt(-5), "-9223372036854775808": vInt(leastInt), "": vStr(""),
		"3p-1": vFlt(1.5), "-1p3": vFlt(-8), "0p0": vFlt(0), "-0p0": vFlt(minusZero), "1p-1074": vFlt(least), "9007199254740991p971": vFlt(greatest),
		"inf": vFlt(math.Inf(1)), "-inf": vFlt(math.Inf(-1)), "nan": vFlt(math.NaN()),
		"table": vRef(impl.KTable, 4), "fn": vRef(impl.KFn, 4), "task": vRef(impl.KTask, 4), "builtin": vBuiltin(4),
	} {
		if got := impl.Text(v); got != text {
			t.Errorf("%v: %q, want %q", v, got, text)
		}
	}
}
