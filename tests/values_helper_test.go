package tests

import (
	"fmt"
	"math"
	"math/big"
	"strings"

	"loop.example/heddle/impl"
)

func vBool(is bool) impl.Value {
	if is {
		return impl.Value{Kind: impl.KBool, Num: 1}
	}
	return impl.Value{Kind: impl.KBool}
}

func vInt(n int64) impl.Value { return impl.Value{Kind: impl.KInt, Num: n} }

func vFlt(f float64) impl.Value { return impl.Value{Kind: impl.KFlt, Flt: f} }

func vStr(s string) impl.Value { return impl.Value{Kind: impl.KStr, Str: s} }

func vRef(kind, ref int) impl.Value { return impl.Value{Kind: kind, Ref: ref} }

func vBuiltin(n int64) impl.Value { return impl.Value{Kind: impl.KBuiltin, Num: n} }

func sameValue(a, b impl.Value) bool {
	if !same(a.Flt, b.Flt) {
		return false
	}
	a.Flt, b.Flt = 0, 0
	return a == b
}

func sameValued(a, b impl.Valued) bool { return a.Code == b.Code && sameValue(a.Value, b.Value) }

func sameConst(a, b impl.Const) bool {
	return a.Part == b.Part && a.Code == b.Code && sameValue(a.Value, b.Value)
}

// literalValues: values for which a tree has a literal or a builtin's name.
func literalValues() []impl.Value {
	values := []impl.Value{
		{}, vBool(false), vBool(true), vBuiltin(0), vBuiltin(3), vBuiltin(14),
		vStr(""), vStr("a"), vStr("ab"), vStr("b"), vStr("\x00\xff"), vStr("7"), vStr(strings.Repeat("x", 3999)), vStr(strings.Repeat("y", 4000)),
	}
	for _, n := range []int64{0, 1, -1, 2, 3, 7, -7, 62, 63, 64, 65, 1 << 40, 1<<53 + 1, -1<<53 - 1, mostInt, leastInt, leastInt + 1} {
		values = append(values, vInt(n))
	}
	for _, f := range []float64{
		0, minusZero, 1, -1, 0.5, -0.5, 2.5, 7, -7, 63, 1 << 53, -1 << 53, 1 << 63, -1 << 63, 1e300, -1e300, least, -least, greatest, math.Inf(1), math.Inf(-1),
	} {
		values = append(values, vFlt(f))
	}
	return values
}

// validValues: those, and the ones that only a run or an operation gives.
func validValues() []impl.Value {
	values := append(literalValues(), vFlt(math.NaN()), vFlt(math.Float64frombits(0xfff8000000000001)))
	for _, kind := range []int{impl.KTable, impl.KFn, impl.KTask} {
		values = append(values, vRef(kind, 0), vRef(kind, 5), vRef(kind, math.MaxInt))
	}
	// A zero of either sign is 0 in a field that is not used.
	for _, v := range []impl.Value{{}, vBool(true), vInt(7), vStr("a"), vRef(impl.KTable, 5), vBuiltin(3)} {
		v.Flt = minusZero
		values = append(values, v)
	}
	return values
}

// wrongValues: values with a Kind that is none, a field that is not used, or one that is not as it has to be.
func wrongValues() []impl.Value {
	values := []impl.Value{
		{Kind: -1}, {Kind: 9}, {Kind: math.MinInt}, {Kind: math.MaxInt}, {Kind: 1<<32 + impl.KInt},
		{Kind: impl.KBool, Num: 2}, {Kind: impl.KBool, Num: -1}, {Kind: impl.KBool, Num: 1 << 32},
		vStr(strings.Repeat("x", 4001)), vBuiltin(-1), vBuiltin(15), vBuiltin(leastInt), vBuiltin(mostInt),
		vRef(impl.KTable, -1), vRef(impl.KFn, -1), vRef(impl.KTask, math.MinInt),
	}
	for kind := range 9 {
		for _, spoil := range []func(v *impl.Value){
			func(v *impl.Value) { v.Num = 1 },
			func(v *impl.Value) { v.Num = leastInt },
			func(v *impl.Value) { v.Flt = 1 },
			func(v *impl.Value) { v.Flt = least },
			func(v *impl.Value) { v.Flt = math.NaN() },
			func(v *impl.Value) { v.Str = "\x00" },
			func(v *impl.Value) { v.Ref = 1 },
			func(v *impl.Value) { v.Ref = -1 },
		} {
			v := impl.Value{Kind: kind}
			spoil(&v)
			if !plainValid(v) {
				values = append(values, v)
			}
		}
	}
	return values
}

func plainValid(v impl.Value) bool {
	num, flt, str, ref := v.Num != 0, v.Flt != 0, v.Str != "", v.Ref != 0
	switch v.Kind {
	case impl.KNil:
		return !num && !flt && !str && !ref
	case impl.KBool:
		return (v.Num == 0 || v.Num == 1) && !flt && !str && !ref
	case impl.KInt:
		return !flt && !str && !ref
	case impl.KFlt:
		return !num && !str && !ref
	case impl.KStr:
		return !num && !flt && !ref && len(v.Str) <= 4000
	case impl.KTable, impl.KFn, impl.KTask:
		return !num && !flt && !str && v.Ref >= 0
	case impl.KBuiltin:
		return !flt && !str && !ref && v.Num >= 0 && v.Num <= 14
	}
	return false
}

func plainTruth(v impl.Value) bool {
	return plainValid(v) && v.Kind != impl.KNil && !(v.Kind == impl.KBool && v.Num == 0)
}

func plainNumber(v impl.Value) bool { return v.Kind == impl.KInt || v.Kind == impl.KFlt }

// plainRat: a number exactly; an infinity as one beyond all numbers.
func plainRat(v impl.Value) *big.Rat {
	beyond := new(big.Rat).SetInt(new(big.Int).Lsh(big.NewInt(1), 2000))
	switch {
	case v.Kind == impl.KInt:
		return new(big.Rat).SetInt64(v.Num)
	case math.IsInf(v.Flt, 1):
		return beyond
	case math.IsInf(v.Flt, -1):
		return beyond.Neg(beyond)
	}
	return ratOf(v.Flt)
}

func plainCompare(a, b impl.Value) int {
	switch {
	case !plainValid(a) || !plainValid(b):
		return 3
	case a.Kind == impl.KStr && b.Kind == impl.KStr:
		return strings.Compare(a.Str, b.Str)
	case !plainNumber(a) || !plainNumber(b):
		return 3
	case math.IsNaN(a.Flt) || math.IsNaN(b.Flt):
		return 2
	}
	return plainRat(a).Cmp(plainRat(b))
}

func plainSame(a, b impl.Value) bool {
	if !plainValid(a) || !plainValid(b) {
		return false
	}
	if plainNumber(a) && plainNumber(b) {
		return plainCompare(a, b) == 0
	}
	return a.Kind == b.Kind && a.Num == b.Num && a.Str == b.Str && a.Ref == b.Ref
}

// plainText: a float by what the library tells of it, halved or doubled until its number is odd.
func plainText(v impl.Value) string {
	if !plainValid(v) {
		return ""
	}
	switch v.Kind {
	case impl.KBool:
		return fmt.Sprint(v.Num == 1)
	case impl.KInt:
		return fmt.Sprint(v.Num)
	case impl.KStr:
		return v.Str
	case impl.KFlt:
		return plainFloatText(v.Flt)
	}
	return map[int]string{impl.KNil: "nil", impl.KTable: "table", impl.KFn: "fn", impl.KTask: "task", impl.KBuiltin: "builtin"}[v.Kind]
}

func plainFloatText(f float64) string {
	switch {
	case math.IsNaN(f):
		return "nan"
	case math.IsInf(f, 1):
		return "inf"
	case math.IsInf(f, -1):
		return "-inf"
	case same(f, 0):
		return "0p0"
	case same(f, minusZero):
		return "-0p0"
	}
	frac, exp := math.Frexp(f)
	num := int64(frac * (1 << 53))
	for exp -= 53; num%2 == 0; exp++ {
		num /= 2
	}
	return fmt.Sprintf("%dp%d", num, exp)
}

func plainFails(code int) impl.Valued { return impl.Valued{Code: code} }

func plainGives(v impl.Value) impl.Valued { return impl.Valued{Value: v} }

func plainBinary(op int, a, b impl.Value) impl.Valued {
	if !plainValid(a) || !plainValid(b) {
		return plainFails(1)
	}
	switch op {
	case impl.OpEq:
		return plainGives(vBool(plainSame(a, b)))
	case impl.OpNe:
		return plainGives(vBool(!plainSame(a, b)))
	case impl.OpJoin:
		return plainJoin(a, b)
	case impl.OpLt, impl.OpLe, impl.OpGt, impl.OpGe:
		order := plainCompare(a, b)
		if order == 3 {
			return plainFails(1)
		}
		holds := map[int]string{impl.OpLt: "<", impl.OpLe: "<=", impl.OpGt: ">", impl.OpGe: ">="}[op]
		return plainGives(vBool(strings.Contains(holds, []string{"<", "=", ">", "!"}[order+1])))
	}
	switch {
	case !plainNumber(a) || !plainNumber(b):
		return plainFails(1)
	case a.Kind == impl.KInt && b.Kind == impl.KInt && op != impl.OpDiv:
		return plainInts(op, a.Num, b.Num)
	}
	x, _ := plainFloat(a)
	y, _ := plainFloat(b)
	return plainFloats(op, x, y)
}

// plainFloat: the float nearest to a number.
func plainFloat(v impl.Value) (float64, bool) {
	if v.Kind == impl.KInt {
		return new(big.Rat).SetInt64(v.Num).Float64()
	}
	return v.Flt, true
}

func plainJoin(a, b impl.Value) impl.Valued {
	for _, v := range []impl.Value{a, b} {
		if v.Kind != impl.KStr && !plainNumber(v) {
			return plainFails(1)
		}
	}
	text := plainText(a) + plainText(b)
	if len(text) > 4000 {
		return plainFails(4)
	}
	return plainGives(vStr(text))
}

func plainInts(op int, a, b int64) impl.Valued {
	x, y := big.NewInt(a), big.NewInt(b)
	unsigned := new(big.Int).SetUint64(uint64(a))
	gives := func(n *big.Int) impl.Valued { return plainGives(vInt(wrapped(n))) }
	switch op {
	case impl.OpAdd:
		return gives(x.Add(x, y))
	case impl.OpSub:
		return gives(x.Sub(x, y))
	case impl.OpMul:
		return gives(x.Mul(x, y))
	case impl.OpIDiv, impl.OpMod:
		if b == 0 {
			return plainFails(2)
		}
		// The library's quotient is rounded down when the divisor is above 0.
		sign := big.NewInt(int64(y.Sign()))
		quot := new(big.Int).Div(new(big.Int).Mul(x, sign), new(big.Int).Mul(y, sign))
		if op == impl.OpIDiv {
			return gives(quot)
		}
		return gives(x.Sub(x, quot.Mul(quot, y)))
	case impl.OpAnd:
		return gives(x.And(x, y))
	case impl.OpOr:
		return gives(x.Or(x, y))
	case impl.OpXor:
		return gives(x.Xor(x, y))
	case impl.OpShl, impl.OpShr:
		switch {
		case b < 0:
			return plainFails(3)
		case b > 63:
			return plainGives(vInt(0))
		case op == impl.OpShl:
			return gives(x.Lsh(x, uint(b)))
		}
		return gives(unsigned.Rsh(unsigned, uint(b)))
	}
	return plainFails(1)
}

func plainFloats(op int, a, b float64) impl.Valued {
	quot := a / b
	down := math.Floor(quot)
	product := down * b
	switch op {
	case impl.OpAdd:
		return plainGives(vFlt(a + b))
	case impl.OpSub:
		return plainGives(vFlt(a - b))
	case impl.OpMul:
		return plainGives(vFlt(a * b))
	case impl.OpDiv:
		return plainGives(vFlt(quot))
	case impl.OpIDiv:
		return plainGives(vFlt(down))
	case impl.OpMod:
		return plainGives(vFlt(a - product))
	}
	return plainFails(1)
}

func plainUnary(op int, v impl.Value) impl.Valued {
	switch {
	case !plainValid(v):
		return plainFails(1)
	case op == impl.OpNot:
		return plainGives(vBool(!plainTruth(v)))
	case op == impl.OpNeg && v.Kind == impl.KInt:
		n := big.NewInt(v.Num)
		return plainGives(vInt(wrapped(n.Neg(n))))
	case op == impl.OpNeg && v.Kind == impl.KFlt:
		return plainGives(vFlt(math.Copysign(v.Flt, -math.Copysign(1, v.Flt))))
	case op == impl.OpFlip && v.Kind == impl.KInt:
		n := big.NewInt(v.Num)
		return plainGives(vInt(wrapped(n.Not(n))))
	case op == impl.OpLen && v.Kind == impl.KStr:
		return plainGives(vInt(int64(len([]byte(v.Str)))))
	}
	return plainFails(1)
}
