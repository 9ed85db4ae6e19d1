package tests

import (
	"math"
	"math/big"
	"math/rand"
	"slices"
	"strings"
	"testing"
	"unsafe"

	"loop.example/heddle/impl"
)

const mostTurns = 1000000000000

// plainKey: a float by what it is as an exact number.
func plainKey(v impl.Value) impl.Valued {
	switch {
	case !plainValid(v):
		return plainFails(1)
	case v.Kind == impl.KNil || math.IsNaN(v.Flt):
		return plainFails(5)
	case v.Kind == impl.KFlt && !math.IsInf(v.Flt, 0):
		if r := ratOf(v.Flt); r.IsInt() && r.Num().IsInt64() {
			return plainGives(vInt(r.Num().Int64()))
		}
	}
	return plainGives(v)
}

func plainTableOk(t impl.Table) bool {
	if len(t.Pairs) > 500 || t.Turns < 0 || t.Turns > mostTurns {
		return false
	}
	for i, p := range t.Pairs {
		if !sameValued(plainKey(p.Key), plainGives(p.Key)) {
			return false
		}
		if !plainValid(p.Val) || p.Val.Kind == impl.KNil {
			return false
		}
		if p.Turn < 1 || p.Turn > t.Turns || i > 0 && p.Turn <= t.Pairs[i-1].Turn {
			return false
		}
		for _, other := range t.Pairs[:i] {
			if plainSame(p.Key, other.Key) {
				return false
			}
		}
	}
	return true
}

// plainPlace: where the pair of a key stands, or -1.
func plainPlace(t impl.Table, k impl.Value) int {
	return slices.IndexFunc(t.Pairs, func(p impl.Pair) bool { return plainSame(p.Key, k) })
}

// plainGet, plainPut, plainAfter, plainLength: of a valid table.
func plainGet(t impl.Table, k impl.Value) impl.Value {
	if at := plainPlace(t, k); at >= 0 {
		return t.Pairs[at].Val
	}
	return impl.Value{}
}

func plainPut(t impl.Table, k, v impl.Value) impl.Table {
	key := plainKey(k)
	if key.Code != 0 || !plainValid(v) {
		return impl.Table{}
	}
	var out impl.Table
	out.Turns = t.Turns
	there := false
	for _, p := range t.Pairs {
		if plainSame(p.Key, k) {
			there = true
			p.Val = v
		}
		if p.Val.Kind != impl.KNil {
			out.Pairs = append(out.Pairs, p)
		}
	}
	if there || v.Kind == impl.KNil || len(out.Pairs) == 500 || out.Turns == mostTurns {
		return out
	}
	out.Turns++
	out.Pairs = append(out.Pairs, impl.Pair{Key: key.Value, Val: v, Turn: out.Turns})
	return out
}

func plainAfter(t impl.Table, turn int) impl.Found {
	for _, p := range t.Pairs {
		if p.Turn > turn {
			return impl.Found{Found: true, Pair: p}
		}
	}
	return impl.Found{}
}

func plainLength(t impl.Table) int {
	n := 0
	for plainPlace(t, vInt(int64(n+1))) >= 0 {
		n++
	}
	return n
}

func samePair(a, b impl.Pair) bool {
	return sameValue(a.Key, b.Key) && sameValue(a.Val, b.Val) && a.Turn == b.Turn
}

func sameTable(a, b impl.Table) bool {
	return a.Turns == b.Turns && slices.EqualFunc(a.Pairs, b.Pairs, samePair)
}

// copiedTable: a table that shares no memory with t, not even by a string.
func copiedTable(t impl.Table) impl.Table {
	out := impl.Table{Turns: t.Turns}
	for _, p := range t.Pairs {
		p.Key.Str, p.Val.Str = strings.Clone(p.Key.Str), strings.Clone(p.Val.Str)
		out.Pairs = append(out.Pairs, p)
	}
	return out
}

// sharesText: whether two texts lie in the same memory.
func sharesText(a, b string) bool {
	return a != "" && b != "" && unsafe.StringData(a) == unsafe.StringData(b)
}

// pairsOf: a table whose pairs came one behind the other, with its last coming the last one of all.
func pairsOf(keysAndValues ...impl.Value) impl.Table {
	var t impl.Table
	for i := 0; i < len(keysAndValues); i += 2 {
		t.Turns++
		t.Pairs = append(t.Pairs, impl.Pair{Key: keysAndValues[i], Val: keysAndValues[i+1], Turn: t.Turns})
	}
	return t
}

// countedTable: n pairs with the ints from 1 on as keys.
func countedTable(n int) impl.Table {
	var t impl.Table
	for i := 1; i <= n; i++ {
		t.Pairs = append(t.Pairs, impl.Pair{Key: vInt(int64(i)), Val: vInt(int64(-i)), Turn: i})
	}
	t.Turns = n
	return t
}

// someKeys: values at which a table is read or written, keys or not.
func someKeys() []impl.Value {
	keys := append(validValues(), wrongValues()...)
	for n := range 8 {
		keys = append(keys, vInt(int64(n)), vFlt(float64(n)), vFlt(float64(n)+0.5), vInt(int64(-n)))
	}
	for _, f := range edgeFloats() {
		keys = append(keys, vFlt(f))
	}
	return keys
}

// grownTable: a valid table by chance, its keys out of few or of many.
func grownTable(r *rand.Rand) impl.Table {
	keys := someKeys()
	if r.Intn(2) == 0 {
		keys = keys[len(keys)-20:]
		for n := range 10 {
			keys = append(keys, vInt(int64(n)))
		}
	}
	values := validValues()
	var t impl.Table
	for range r.Intn(20) {
		key := plainKey(keys[r.Intn(len(keys))])
		val := values[r.Intn(len(values))]
		if key.Code != 0 || val.Kind == impl.KNil || plainPlace(t, key.Value) >= 0 {
			continue
		}
		t.Turns += 1 + r.Intn(3)
		t.Pairs = append(t.Pairs, impl.Pair{Key: key.Value, Val: val, Turn: t.Turns})
	}
	switch r.Intn(8) {
	case 0:
		t.Turns = mostTurns
	case 1:
		t.Turns = mostTurns - 1
	case 2:
		t.Turns += r.Intn(3)
	}
	return t
}

// spoilTable: one change by chance, which may leave the table valid.
func spoilTable(r *rand.Rand, t impl.Table) impl.Table {
	t = copiedTable(t)
	if len(t.Pairs) == 0 || r.Intn(6) == 0 {
		t.Turns += []int{-1 - r.Intn(3), 1, mostTurns, -mostTurns, math.MinInt, math.MaxInt - 1000}[r.Intn(6)]
		return t
	}
	at := r.Intn(len(t.Pairs))
	p := &t.Pairs[at]
	keys := someKeys()
	switch r.Intn(6) {
	case 0:
		p.Key = keys[r.Intn(len(keys))]
	case 1:
		p.Val = keys[r.Intn(len(keys))]
	case 2:
		p.Turn += r.Intn(7) - 3
	case 3:
		p.Turn = []int{0, -1, math.MinInt, math.MaxInt, mostTurns}[r.Intn(5)]
	case 4:
		p.Key = t.Pairs[r.Intn(len(t.Pairs))].Key
		if p.Key.Kind == impl.KInt {
			p.Key.Flt = minusZero
		}
	case 5:
		t.Pairs = append(t.Pairs, t.Pairs[at])
	}
	return t
}

// checkTable: all that is asked of a table, at these keys and with these values, and that the table is as before.
func checkTable(t *testing.T, table impl.Table, keys, values []impl.Value) {
	t.Helper()
	before := copiedTable(table)
	if plainTableOk(table) {
		checkValidTable(t, table, keys, values)
	} else {
		checkWrongTable(t, table, keys, values)
	}
	if !sameTable(table, before) {
		t.Errorf("changed from %s to %s", shortly(before), shortly(table))
	}
}

func checkValidTable(t *testing.T, table impl.Table, keys, values []impl.Value) {
	t.Helper()
	if !impl.TableOk(table) {
		t.Fatalf("not valid: %s", shortly(table))
	}
	if got, want := impl.Length(table), plainLength(table); got != want {
		t.Errorf("Length of %s: %d, want %d", shortly(table), got, want)
	}
	for _, turn := range turnsAround(table) {
		got, want := impl.After(table, turn), plainAfter(table, turn)
		if got.Found != want.Found || !samePair(got.Pair, want.Pair) {
			t.Errorf("After %d of %s: %s, want %s", turn, shortly(table), shortly(got), shortly(want))
		}
	}
	for _, k := range keys {
		if got, want := impl.Get(table, k), plainGet(table, k); !sameValue(got, want) {
			t.Errorf("Get of %s at %s: %s, want %s", shortly(table), shortly(k), shortly(got), shortly(want))
		}
		for _, v := range values {
			if got, want := impl.Put(table, k, v), plainPut(table, k, v); !sameTable(got, want) {
				t.Errorf("Put into %s at %s of %s: %s, want %s", shortly(table), shortly(k), shortly(v), shortly(got), shortly(want))
			}
		}
	}
}

// checkWrongTable: of a table that is not valid nothing is ever told.
func checkWrongTable(t *testing.T, table impl.Table, keys, values []impl.Value) {
	t.Helper()
	if impl.TableOk(table) || impl.Length(table) != 0 {
		t.Fatalf("%s: valid %v, Length %d", shortly(table), impl.TableOk(table), impl.Length(table))
	}
	for _, turn := range turnsAround(table) {
		if got := impl.After(table, turn); got != (impl.Found{}) {
			t.Errorf("After %d of %s: %s", turn, shortly(table), shortly(got))
		}
	}
	for _, k := range keys {
		if got := impl.Get(table, k); got != (impl.Value{}) {
			t.Errorf("Get of %s at %s: %s", shortly(table), shortly(k), shortly(got))
		}
		for _, v := range values {
			if got := impl.Put(table, k, v); !sameTable(got, impl.Table{}) {
				t.Errorf("Put into %s at %s of %s: %s", shortly(table), shortly(k), shortly(v), shortly(got))
			}
		}
	}
}

func turnsAround(t impl.Table) []int {
	turns := []int{math.MinInt, -1, 0, 1, t.Turns, math.MaxInt}
	for _, p := range t.Pairs {
		turns = append(turns, p.Turn-1, p.Turn)
	}
	return turns
}

// exactFloat: the float nearest to an exact number; a zero has a minus when neg.
func exactFloat(r *big.Rat, neg bool) float64 {
	f, _ := r.Float64()
	if f == 0 {
		return signed(0, neg)
	}
	return f
}

func signed(f float64, neg bool) float64 {
	if neg {
		return math.Copysign(f, -1)
	}
	return f
}

func hasMinus(f float64) bool { return math.Float64bits(f)>>63 == 1 }

// exactSum, exactProduct, exactQuotient: by exact arithmetic, rounded once; what is no number as IEEE says.
func exactSum(a, b float64) float64 {
	switch {
	case math.IsNaN(a) || math.IsNaN(b) || math.IsInf(a, 0) && math.IsInf(b, 0) && hasMinus(a) != hasMinus(b):
		return math.NaN()
	case math.IsInf(a, 0):
		return a
	case math.IsInf(b, 0):
		return b
	}
	return exactFloat(new(big.Rat).Add(ratOf(a), ratOf(b)), a == 0 && b == 0 && hasMinus(a) && hasMinus(b))
}

func exactProduct(a, b float64) float64 {
	neg := hasMinus(a) != hasMinus(b)
	switch {
	case math.IsNaN(a) || math.IsNaN(b) || math.IsInf(a, 0) && b == 0 || math.IsInf(b, 0) && a == 0:
		return math.NaN()
	case math.IsInf(a, 0) || math.IsInf(b, 0):
		return signed(math.Inf(1), neg)
	}
	return exactFloat(new(big.Rat).Mul(ratOf(a), ratOf(b)), neg)
}

func exactQuotient(a, b float64) float64 {
	neg := hasMinus(a) != hasMinus(b)
	switch {
	case math.IsNaN(a) || math.IsNaN(b) || math.IsInf(a, 0) && math.IsInf(b, 0) || a == 0 && b == 0:
		return math.NaN()
	case math.IsInf(a, 0) || b == 0:
		return signed(math.Inf(1), neg)
	case math.IsInf(b, 0):
		return signed(0, neg)
	}
	return exactFloat(new(big.Rat).Quo(ratOf(a), ratOf(b)), neg)
}

func exactFloor(f float64) float64 {
	if f == 0 || math.IsInf(f, 0) || math.IsNaN(f) {
		return f
	}
	r := ratOf(f)
	// The library's quotient of whole numbers is rounded down, as denominators are above 0.
	return exactFloat(new(big.Rat).SetInt(new(big.Int).Div(r.Num(), r.Denom())), false)
}

// exactFloats: what an operation gives for two floats, or code 1.
func exactFloats(op int, a, b float64) impl.Valued {
	switch op {
	case impl.OpAdd:
		return plainGives(vFlt(exactSum(a, b)))
	case impl.OpSub:
		return plainGives(vFlt(exactSum(a, math.Copysign(b, -math.Copysign(1, b)))))
	case impl.OpMul:
		return plainGives(vFlt(exactProduct(a, b)))
	case impl.OpDiv:
		return plainGives(vFlt(exactQuotient(a, b)))
	case impl.OpIDiv:
		return plainGives(vFlt(exactFloor(exactQuotient(a, b))))
	case impl.OpMod:
		product := exactProduct(exactFloor(exactQuotient(a, b)), b)
		return plainGives(vFlt(exactSum(a, math.Copysign(product, -math.Copysign(1, product)))))
	}
	return plainFails(1)
}
