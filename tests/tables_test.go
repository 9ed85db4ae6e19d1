package tests

import (
	"math"
	"math/rand"
	"slices"
	"strings"
	"testing"

	"loop.example/heddle/impl"
)

// P4: what a value is as a key.
func TestKeys(t *testing.T) {
	for _, v := range someKeys() {
		if got, want := impl.Key(v), plainKey(v); !sameValued(got, want) {
			t.Errorf("%s: %s, want %s", shortly(v), shortly(got), shortly(want))
		}
	}
	for _, f := range everyFloat() {
		if got, want := impl.Key(vFlt(f)), plainKey(vFlt(f)); !sameValued(got, want) {
			t.Errorf("%v: %v, want %v", f, got, want)
		}
	}
	justBelow, farBelow := math.Nextafter(1<<63, 0), math.Nextafter(-1<<63, math.Inf(-1))
	for _, c := range []struct {
		v    impl.Value
		want impl.Valued
	}{
		{vFlt(3), plainGives(vInt(3))},
		{vFlt(-3), plainGives(vInt(-3))},
		{vFlt(0), plainGives(vInt(0))},
		{vFlt(minusZero), plainGives(vInt(0))},
		{vFlt(0.5), plainGives(vFlt(0.5))},
		{vFlt(least), plainGives(vFlt(least))},
		{vFlt(justBelow), plainGives(vInt(1<<63 - 1024))},
		{vFlt(1 << 63), plainGives(vFlt(1 << 63))},
		{vFlt(-1 << 63), plainGives(vInt(leastInt))},
		{vFlt(farBelow), plainGives(vFlt(farBelow))},
		{vFlt(math.Inf(1)), plainGives(vFlt(math.Inf(1)))},
		{vFlt(math.Inf(-1)), plainGives(vFlt(math.Inf(-1)))},
		{vFlt(math.NaN()), plainFails(impl.ErrKey)},
		{impl.Value{}, plainFails(impl.ErrKey)},
		{impl.Value{Flt: minusZero}, plainFails(impl.ErrKey)},
		{impl.Value{Flt: math.NaN()}, plainFails(impl.ErrType)},
		{impl.Value{Kind: impl.KFlt, Flt: math.NaN(), Ref: 1}, plainFails(impl.ErrType)},
		{impl.Value{Kind: impl.KInt, Num: 3, Flt: minusZero}, plainGives(impl.Value{Kind: impl.KInt, Num: 3, Flt: minusZero})},
		{vBool(false), plainGives(vBool(false))},
		{vStr(""), plainGives(vStr(""))},
		{vStr("3"), plainGives(vStr("3"))},
		{vStr(strings.Repeat("x", 4001)), plainFails(impl.ErrType)},
		{vRef(impl.KTask, 2), plainGives(vRef(impl.KTask, 2))},
		{vRef(impl.KTable, -1), plainFails(impl.ErrType)},
		{vBuiltin(14), plainGives(vBuiltin(14))},
		{vBuiltin(15), plainFails(impl.ErrType)},
	} {
		if got := impl.Key(c.v); !sameValued(got, c.want) {
			t.Errorf("%s: %v, want %v", shortly(c.v), got, c.want)
		}
	}
}

// P4: each condition of a valid table broken alone, at the first pair, in the midst and at the last.
func TestTablesWithOneFault(t *testing.T) {
	sound := impl.Table{Turns: 12, Pairs: []impl.Pair{
		{Key: vInt(1), Val: vBool(false), Turn: 2}, {Key: vFlt(0.5), Val: vStr(""), Turn: 5}, {Key: vStr("a"), Val: vFlt(math.NaN()), Turn: 7}, {Key: vRef(impl.KTable, 0), Val: vRef(impl.KFn, 3), Turn: 12},
	}}
	if !impl.TableOk(sound) {
		t.Fatal("a sound table is not valid")
	}
	for at := range sound.Pairs {
		for what, spoil := range map[string]func(p *impl.Pair){
			"a key that is not valid":      func(p *impl.Pair) { p.Key = impl.Value{Kind: impl.KBool, Num: 2} },
			"a key with a field too many":  func(p *impl.Pair) { p.Key = impl.Value{Kind: impl.KInt, Num: 9, Flt: 1} },
			"a key that is too long":       func(p *impl.Pair) { p.Key = vStr(strings.Repeat("x", 4001)) },
			"nil as a key":                 func(p *impl.Pair) { p.Key = impl.Value{} },
			"a NaN as a key":               func(p *impl.Pair) { p.Key = vFlt(math.NaN()) },
			"a whole float as a key":       func(p *impl.Pair) { p.Key = vFlt(9) },
			"a zero as a key":              func(p *impl.Pair) { p.Key = vFlt(minusZero) },
			"nil as a value":               func(p *impl.Pair) { p.Val = impl.Value{} },
			"nil with a minus as a value":  func(p *impl.Pair) { p.Val = impl.Value{Flt: minusZero} },
			"a value that is not valid":    func(p *impl.Pair) { p.Val = impl.Value{Kind: 9} },
			"a value that is too long":     func(p *impl.Pair) { p.Val = vStr(strings.Repeat("x", 4001)) },
			"a Turn of 0":                  func(p *impl.Pair) { p.Turn = 0 },
			"a Turn below 0":               func(p *impl.Pair) { p.Turn = math.MinInt },
			"a Turn above Turns":           func(p *impl.Pair) { p.Turn = 13 },
			"a Turn above all":             func(p *impl.Pair) { p.Turn = math.MaxInt },
			"the key of another":           func(p *impl.Pair) { p.Key = sound.Pairs[(at+1)%4].Key },
			"the key of another, far away": func(p *impl.Pair) { p.Key = sound.Pairs[(at+2)%4].Key },
		} {
			table := copiedTable(sound)
			spoil(&table.Pairs[at])
			if impl.TableOk(table) {
				t.Errorf("pair %d: %s", at, what)
			}
			checkTable(t, table, []impl.Value{vInt(1), vStr("a"), vInt(7)}, []impl.Value{{}, vInt(7)})
		}
	}
	for at := 1; at < 4; at++ {
		table := copiedTable(sound)
		table.Pairs[at].Turn = table.Pairs[at-1].Turn
		if impl.TableOk(table) {
			t.Errorf("pair %d has the Turn of the one ahead", at)
		}
		table.Pairs[at].Turn++
		if !impl.TableOk(table) {
			t.Errorf("pair %d has a Turn one above", at)
		}
	}
}

// P4: the edges of the numbers in a table, and keys that are the same though they are not equal.
func TestTableEdges(t *testing.T) {
	for _, c := range []struct {
		what  string
		table impl.Table
		want  bool
	}{
		{"nothing", impl.Table{}, true},
		{"an empty list", impl.Table{Pairs: []impl.Pair{}}, true},
		{"no pairs, Turns at its end", impl.Table{Turns: mostTurns}, true},
		{"Turns one beyond", impl.Table{Turns: mostTurns + 1}, false},
		{"Turns below 0", impl.Table{Turns: -1}, false},
		{"Turns far below 0", impl.Table{Turns: math.MinInt}, false},
		{"Turns far beyond", impl.Table{Turns: math.MaxInt}, false},
		{"a Turn at the end", impl.Table{Turns: mostTurns, Pairs: []impl.Pair{{Key: vInt(1), Val: vInt(1), Turn: mostTurns}}}, true},
		{"a Turn beyond the end", impl.Table{Turns: mostTurns + 1, Pairs: []impl.Pair{{Key: vInt(1), Val: vInt(1), Turn: mostTurns + 1}}}, false},
		{"500 pairs", countedTable(500), true},
		{"501 pairs", countedTable(501), false},
		{"1 and 1.0", pairsOf(vInt(1), vInt(1), vFlt(1), vInt(2)), false},
		{"1 and 1.5", pairsOf(vInt(1), vInt(1), vFlt(1.5), vInt(2)), true},
		{"1 and one whose zero has a minus", pairsOf(vInt(1), vInt(1), impl.Value{Kind: impl.KInt, Num: 1, Flt: minusZero}, vInt(2)), false},
		{"a whose zero has a minus, and a", pairsOf(impl.Value{Kind: impl.KStr, Str: "a", Flt: minusZero}, vInt(1), vStr("a"), vInt(2)), false},
		{"a key whose zero has a minus", pairsOf(impl.Value{Kind: impl.KInt, Num: 1, Flt: minusZero}, vInt(1)), true},
		{"2^63 as a float", pairsOf(vFlt(1<<63), vInt(1), vInt(mostInt), vInt(2)), true},
		{"-2^63 as a float", pairsOf(vFlt(-1<<63), vInt(1)), false},
		{"both infinities", pairsOf(vFlt(math.Inf(1)), vInt(1), vFlt(math.Inf(-1)), vInt(2)), true},
		{"one infinity twice", pairsOf(vFlt(math.Inf(1)), vInt(1), vFlt(math.Inf(1)), vInt(2)), false},
		{"7 in each way", pairsOf(vInt(7), vInt(1), vStr("7"), vInt(1), vBuiltin(7), vInt(1), vRef(impl.KTable, 7), vInt(1), vRef(impl.KFn, 7), vInt(1), vRef(impl.KTask, 7), vInt(1)), true},
		{"1, true and builtin 1", pairsOf(vInt(1), vInt(1), vBool(true), vInt(1), vBuiltin(1), vInt(1)), true},
		{"an int that is the bits of a float", pairsOf(vInt(int64(math.Float64bits(0.5))), vInt(1), vFlt(0.5), vInt(2)), true},
	} {
		if impl.TableOk(c.table) != c.want {
			t.Errorf("%s: valid %v", c.what, !c.want)
		}
		if got := plainTableOk(c.table); got != c.want {
			t.Errorf("%s: the tests' own answer is %v", c.what, got)
		}
	}
}

// P4: tables by chance, sound and spoilt, at keys of all sorts with values of all sorts.
func TestTablesByChance(t *testing.T) {
	r := rand.New(rand.NewSource(7))
	all := someKeys()
	some := func(n int) []impl.Value {
		var out []impl.Value
		for range n {
			out = append(out, all[r.Intn(len(all))])
		}
		return out
	}
	spoilt := 0
	for range 600 {
		table := grownTable(r)
		if !plainTableOk(table) {
			t.Fatal("the tests' own table is not valid:", shortly(table))
		}
		keys := some(6)
		for _, p := range table.Pairs {
			keys = append(keys, p.Key)
		}
		values := append(some(2), impl.Value{}, vInt(7))
		checkTable(t, table, keys, values)
		other := spoilTable(r, table)
		if !plainTableOk(other) {
			spoilt++
		}
		checkTable(t, other, keys, values)
	}
	if spoilt < 150 {
		t.Error("tables that are not valid:", spoilt)
	}
}

// P4: a table through a long life of comings and goings, with all that is asked of it on the way.
func TestTableThroughItsLife(t *testing.T) {
	r := rand.New(rand.NewSource(8))
	var keys []impl.Value
	for n := range 12 {
		keys = append(keys, vInt(int64(n)), vFlt(float64(n)), vFlt(float64(n)+0.25), vStr(strings.Repeat("k", n)), vRef(impl.KFn, n))
	}
	var got, want impl.Table
	for range 2500 {
		k, v := keys[r.Intn(len(keys))], vInt(int64(r.Intn(1000)))
		if r.Intn(5) < 2 {
			v = impl.Value{}
		}
		got, want = impl.Put(got, k, v), plainPut(want, k, v)
		if !sameTable(got, want) {
			t.Fatalf("%s at %s: %s, want %s", shortly(v), shortly(k), shortly(got), shortly(want))
		}
		if got, want := impl.Length(got), plainLength(want); got != want {
			t.Fatalf("Length %d, want %d", got, want)
		}
		if read := impl.Get(got, k); read != v {
			t.Fatalf("%v is read as %v", v, read)
		}
	}
	if want.Turns < 500 || len(want.Pairs) < 10 {
		t.Error("a dull life:", want.Turns, len(want.Pairs))
	}
}

// P4: what is read and written, case by case.
func TestGetAndPut(t *testing.T) {
	table := pairsOf(vInt(2), vStr("two"), vStr("x"), vInt(7), vFlt(0.5), vBool(false), vInt(0), vRef(impl.KTable, 4))
	for _, c := range []struct{ k, want impl.Value }{
		{vInt(2), vStr("two")}, {vFlt(2), vStr("two")}, {vStr("2"), impl.Value{}}, {vStr("x"), vInt(7)}, {vFlt(0.5), vBool(false)}, {vInt(0), vRef(impl.KTable, 4)}, {vFlt(0), vRef(impl.KTable, 4)},
		{vFlt(minusZero), vRef(impl.KTable, 4)}, {vBool(false), impl.Value{}}, {impl.Value{}, impl.Value{}}, {vFlt(math.NaN()), impl.Value{}}, {impl.Value{Kind: impl.KInt, Num: 2, Flt: minusZero}, vStr("two")},
		{impl.Value{Kind: impl.KInt, Num: 2, Ref: 1}, impl.Value{}}, {vFlt(math.Inf(1)), impl.Value{}}, {vInt(1), impl.Value{}},
	} {
		if got := impl.Get(table, c.k); !sameValue(got, c.want) {
			t.Errorf("at %v: %v, want %v", c.k, got, c.want)
		}
	}
	pair := func(k, v impl.Value, turn int) impl.Pair { return impl.Pair{Key: k, Val: v, Turn: turn} }
	first, second, third, last := table.Pairs[0], table.Pairs[1], table.Pairs[2], table.Pairs[3]
	for _, c := range []struct {
		what string
		k, v impl.Value
		want impl.Table
	}{
		{"a value for one that is there", vStr("x"), vInt(8), impl.Table{Turns: 4, Pairs: []impl.Pair{first, pair(vStr("x"), vInt(8), 2), third, last}}},
		{"by the float that is the same", vFlt(2), vInt(8), impl.Table{Turns: 4, Pairs: []impl.Pair{pair(vInt(2), vInt(8), 1), second, third, last}}},
		{"nil for the first", vInt(2), impl.Value{}, impl.Table{Turns: 4, Pairs: []impl.Pair{second, third, last}}},
		{"nil for the last, by a zero with a minus", vFlt(minusZero), impl.Value{}, impl.Table{Turns: 4, Pairs: []impl.Pair{first, second, third}}},
		{"nil for one that is not there", vInt(1), impl.Value{}, table},
		{"a new one", vInt(1), vInt(8), impl.Table{Turns: 5, Pairs: append(slices.Clone(table.Pairs), pair(vInt(1), vInt(8), 5))}},
		{"a new one by a float", vFlt(-9), vInt(8), impl.Table{Turns: 5, Pairs: append(slices.Clone(table.Pairs), pair(vInt(-9), vInt(8), 5))}},
		{"nil as a key", impl.Value{}, vInt(8), impl.Table{}},
		{"a NaN as a key", vFlt(math.NaN()), vInt(8), impl.Table{}},
		{"a NaN as a value", vInt(1), vFlt(math.NaN()), impl.Table{Turns: 5, Pairs: append(slices.Clone(table.Pairs), pair(vInt(1), vFlt(math.NaN()), 5))}},
		{"a key that is not valid", impl.Value{Kind: -1}, vInt(8), impl.Table{}},
		{"a value that is not valid", vInt(2), impl.Value{Kind: -1}, impl.Table{}},
		{"a nil that is not valid", vInt(2), impl.Value{Num: 1}, impl.Table{}},
		{"a nil whose zero has a minus", vInt(2), impl.Value{Flt: minusZero}, impl.Table{Turns: 4, Pairs: []impl.Pair{second, third, last}}},
	} {
		if got := impl.Put(table, c.k, c.v); !sameTable(got, c.want) {
			t.Errorf("%s: %v, want %v", c.what, got, c.want)
		}
	}
	gone := impl.Put(impl.Put(table, vInt(2), impl.Value{}), vInt(2), vStr("again"))
	if want := (impl.Table{Turns: 5, Pairs: []impl.Pair{second, third, last, pair(vInt(2), vStr("again"), 5)}}); !sameTable(gone, want) {
		t.Error("one that comes again:", gone)
	}
}

// P4: at 500 pairs, and at the last Turn, a key that is there can be written and taken out, a new one can't come.
func TestPutAtTheLimits(t *testing.T) {
	almost, full := countedTable(499), countedTable(500)
	if got := impl.Put(almost, vInt(0), vInt(1)); len(got.Pairs) != 500 || got.Turns != 500 || got.Pairs[499] != (impl.Pair{Key: vInt(0), Val: vInt(1), Turn: 500}) {
		t.Error("the 500th pair:", len(got.Pairs), got.Turns)
	}
	late := func(turns int) impl.Table {
		table := countedTable(3)
		table.Turns = turns
		return table
	}
	if got := impl.Put(late(mostTurns-1), vInt(0), vInt(1)); got.Turns != mostTurns || got.Pairs[3].Turn != mostTurns {
		t.Error("the last Turn:", got)
	}
	for _, table := range []impl.Table{full, late(mostTurns)} {
		n := len(table.Pairs)
		if got := impl.Put(table, vInt(0), vInt(1)); !sameTable(got, table) {
			t.Error("a new one comes:", len(got.Pairs), got.Turns)
		}
		if got := impl.Put(table, vInt(0), impl.Value{}); !sameTable(got, table) {
			t.Error("nil for a new one:", len(got.Pairs), got.Turns)
		}
		for _, k := range []impl.Value{vInt(2), vFlt(2), vInt(int64(n))} {
			if got := impl.Put(table, k, vStr("x")); !sameTable(got, plainPut(table, k, vStr("x"))) || len(got.Pairs) != n || impl.Get(got, k) != vStr("x") {
				t.Error("one that is there:", k, len(got.Pairs), got.Turns)
			}
			if got := impl.Put(table, k, impl.Value{}); len(got.Pairs) != n-1 || got.Turns != table.Turns || impl.Get(got, k) != (impl.Value{}) {
				t.Error("one that goes:", k, len(got.Pairs), got.Turns)
			}
		}
	}
	over := countedTable(501)
	if got := impl.Put(over, vInt(1), impl.Value{}); !sameTable(got, impl.Table{}) || impl.Get(over, vInt(1)) != (impl.Value{}) || impl.Length(over) != 0 || impl.After(over, 0).Found {
		t.Error("501 pairs:", len(got.Pairs))
	}
}

// P4: the pair behind a turn.
func TestAfter(t *testing.T) {
	table := impl.Table{Turns: 20, Pairs: []impl.Pair{{Key: vInt(5), Val: vInt(1), Turn: 3}, {Key: vStr("k"), Val: vFlt(math.NaN()), Turn: 4}, {Key: vInt(1), Val: vInt(2), Turn: 11}}}
	for _, c := range []struct{ turn, at int }{{math.MinInt, 0}, {-1, 0}, {0, 0}, {2, 0}, {3, 1}, {4, 2}, {5, 2}, {10, 2}, {11, -1}, {12, -1}, {20, -1}, {math.MaxInt, -1}} {
		want := impl.Found{}
		if c.at >= 0 {
			want = impl.Found{Found: true, Pair: table.Pairs[c.at]}
		}
		if got := impl.After(table, c.turn); got.Found != want.Found || !samePair(got.Pair, want.Pair) {
			t.Errorf("after %d: %v", c.turn, got)
		}
	}
	table.Turns = 10
	if got := impl.After(table, 0); got != (impl.Found{}) {
		t.Error("a table that is not valid:", got)
	}
	if got := impl.After(impl.Table{}, -1); got != (impl.Found{}) {
		t.Error("no pairs:", got)
	}
}

// P4: lengths, with a gap, without a 1, with keys in any order.
func TestLength(t *testing.T) {
	ints := func(keys ...int64) impl.Table {
		var all []impl.Value
		for _, k := range keys {
			all = append(all, vInt(k), vBool(true))
		}
		return pairsOf(all...)
	}
	for _, c := range []struct {
		table impl.Table
		want  int
	}{
		{impl.Table{}, 0}, {ints(1), 1}, {ints(2), 0}, {ints(0), 0}, {ints(3, 1, 2), 3}, {ints(1, 2, 4, 5), 2}, {ints(2, 3, 4), 0}, {ints(-1, 0, 1), 1}, {ints(5, 4, 3, 2, 1, 0, -1), 5}, {ints(leastInt, mostInt, 1), 1},
		{pairsOf(vInt(1), vInt(1), vFlt(1.5), vInt(1), vStr("2"), vInt(1)), 1}, {pairsOf(vInt(1), vInt(1), vFlt(2), vInt(1)), 0}, {pairsOf(vInt(1), impl.Value{}), 0}, {pairsOf(vBool(true), vInt(1), vBuiltin(2), vInt(2)), 0},
		{countedTable(500), 500}, {countedTable(501), 0},
	} {
		if got := impl.Length(c.table); got != c.want {
			t.Errorf("%s: %d, want %d", shortly(c.table), got, c.want)
		}
	}
}

// P4: the table handed in is as before, and an answer shares no memory with it, nor with the key and the value.
func TestTablesShareNothing(t *testing.T) {
	table := pairsOf(vStr("first"), vStr("one"), vStr("second"), vStr("two"))
	table.Pairs = append(make([]impl.Pair, 0, 50), table.Pairs...)
	before := copiedTable(table)
	k, v := vStr("third"), vStr("three")
	for what, got := range map[string]impl.Table{
		"a new one":          impl.Put(table, k, v),
		"one that is there":  impl.Put(table, vStr("first"), v),
		"one that goes":      impl.Put(table, vStr("first"), impl.Value{}),
		"one that is not":    impl.Put(table, vStr("none"), impl.Value{}),
		"one at the limit":   impl.Put(impl.Table{Pairs: table.Pairs, Turns: mostTurns}, k, v),
		"its own, once more": impl.Put(table, table.Pairs[1].Key, table.Pairs[1].Val),
	} {
		if len(got.Pairs) == 0 {
			t.Fatal(what, got)
		}
		for i := range got.Pairs {
			for _, old := range []string{table.Pairs[0].Key.Str, table.Pairs[0].Val.Str, table.Pairs[1].Key.Str, table.Pairs[1].Val.Str, k.Str, v.Str} {
				if sharesText(got.Pairs[i].Key.Str, old) || sharesText(got.Pairs[i].Val.Str, old) {
					t.Errorf("%s: pair %d shares the text %q", what, i, old)
				}
			}
			got.Pairs[i] = impl.Pair{Turn: -1}
		}
		if !sameTable(table, before) {
			t.Fatalf("%s: the table has become %v", what, table)
		}
	}
	if hidden := table.Pairs[:50][2:]; slices.ContainsFunc(hidden, func(p impl.Pair) bool { return p != impl.Pair{} }) {
		t.Error("written behind the table's pairs")
	}
	if sharesText(impl.Get(table, vStr("first")).Str, table.Pairs[0].Val.Str) || sharesText(impl.After(table, 0).Pair.Key.Str, table.Pairs[0].Key.Str) || sharesText(impl.After(table, 0).Pair.Val.Str, table.Pairs[0].Val.Str) {
		t.Error("Get or After shares a text")
	}
	if sharesText(impl.Key(k).Value.Str, k.Str) || sharesText(impl.Text(k), k.Str) || sharesText(impl.Binary(impl.OpJoin, k, vStr("")).Value.Str, k.Str) || sharesText(impl.Binary(impl.OpJoin, vStr(""), k).Value.Str, k.Str) {
		t.Error("Key, Text or a join shares a text")
	}
}
