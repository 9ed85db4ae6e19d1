package tests

import (
	"fmt"
	"math"
	"math/rand"
	"slices"
	"testing"

	"loop.example/heddle/impl"
)

// callTree: f(a + b, c); return
func callTree() impl.Tree { return treeOf(callSheet()) }

// P3: a kid is a place ahead of its part.
func TestTreeKidPlaces(t *testing.T) {
	for _, kid := range []int{math.MinInt, -2, -1, 3, 4, 8, 9, 1 << 32, math.MaxInt} {
		for i := range 2 {
			x := callTree()
			x.Parts[3].Kids[i] = kid
			checkTree(t, fmt.Sprint("kid ", i, " is ", kid), x, impl.Wrong{Code: 2, Part: 3})
		}
	}
	for _, kid := range []int{-1, 0, 1} {
		first := impl.Tree{Parts: []impl.Part{{Kind: impl.SBlock, Line: 1, Kids: []int{kid}}}}
		checkTree(t, fmt.Sprint("the only part has the kid ", kid), first, impl.Wrong{Code: 2})
	}
}

// P3: the parts below a part stand just ahead of it, in the order of a walk; all stand below the last one.
func TestTreeOrder(t *testing.T) {
	checkSoundTree(t, "a call", callTree())
	for _, c := range []struct {
		what string
		part int
		kids []int
		want int
	}{
		{"two kids the other way round", 3, []int{2, 1}, 3},
		{"the same kid twice, the last one", 3, []int{2, 2}, 3},
		{"the same kid twice, the first one", 3, []int{1, 1}, 3},
		{"kids further ahead", 3, []int{0, 1}, 3},
		{"a kid left out in the midst", 3, []int{0, 2}, 3},
		{"arguments the other way round", 5, []int{0, 4, 3}, 5},
		{"an argument left out at the end", 5, []int{0, 3}, 5},
		{"an argument left out in the midst", 5, []int{0, 4}, 5},
		{"a kid's kid as a kid too", 5, []int{0, 2, 3, 4}, 5},
		{"a kid's kid in its place", 5, []int{0, 1, 4}, 5},
		{"a first argument left out", 5, []int{3, 4}, 8},
		{"statements the other way round", 8, []int{7, 6}, 8},
		{"the last statement alone", 8, []int{7}, 8},
		{"the first statement alone", 8, []int{6}, 8},
		{"no statement", 8, nil, 8},
		{"a statement twice", 8, []int{6, 7, 7}, 8},
	} {
		x := callTree()
		x.Parts[c.part].Kids = c.kids
		checkTree(t, c.what, x, impl.Wrong{Code: 3, Part: c.want})
	}
}

// P3: a part that two have as a kid, one that none has, and the parts of one pushed between those of another.
func TestTreeSharedKids(t *testing.T) {
	leaf := impl.Part{Kind: impl.EFlt, Flt: 2}
	throw := func(kid int) impl.Part { return impl.Part{Kind: impl.SThrow, Line: 1, Kids: []int{kid}} }
	text := func(kids ...int) impl.Part { return impl.Part{Kind: impl.SBlock, Line: 1, Kids: kids} }
	for _, c := range []struct {
		what  string
		parts []impl.Part
		want  int
	}{
		{"a part that two have", []impl.Part{leaf, throw(0), throw(0), text(1, 2)}, 2},
		{"a part that none has, ahead of all", []impl.Part{leaf, leaf, throw(1), text(2)}, 3},
		{"a part that none has, between", []impl.Part{leaf, leaf, throw(0), text(2)}, 2},
		{"the leaves first", []impl.Part{leaf, leaf, throw(0), throw(1), text(2, 3)}, 2},
		{"the leaves first, the other way round", []impl.Part{leaf, leaf, throw(1), throw(0), text(2, 3)}, 3},
		{"two texts", []impl.Part{text(), text()}, 1},
	} {
		checkTree(t, c.what, impl.Tree{Parts: c.parts}, impl.Wrong{Code: 3, Part: c.want})
	}
}

// P3: a depth of 100 is sound, one of 101 is not; of several the first part counts.
func TestTreeDepth(t *testing.T) {
	checkSoundTree(t, "depth 99", treeOf(deepSheet(99)))
	checkSoundTree(t, "depth 100", treeOf(deepSheet(100)))
	checkTree(t, "depth 101", treeOf(deepSheet(101)), impl.Wrong{Code: 4})
	checkTree(t, "depth 1000", treeOf(deepSheet(1000)), impl.Wrong{Code: 4})
	for _, depth := range []int{98, 99} {
		// The flat statement ahead moves the first fault behind it.
		parts := []impl.Part{{Kind: impl.SBreak, Line: 1}, {Kind: impl.EName, Text: "a"}}
		for range depth {
			parts = append(parts, impl.Part{Kind: impl.EUnary, Op: impl.OpNot, Kids: []int{len(parts) - 1}})
		}
		parts = append(parts, impl.Part{Kind: impl.SThrow, Line: 1, Kids: []int{len(parts) - 1}})
		x := impl.Tree{Parts: append(parts, impl.Part{Kind: impl.SBlock, Line: 1, Kids: []int{0, len(parts) - 1}})}
		want := impl.Wrong{}
		if depth == 99 {
			want = impl.Wrong{Code: 4, Part: 1}
		}
		checkTree(t, fmt.Sprint(depth, " prefixes"), x, want)
	}
}

// P3: of several faults the first by its code, then by its part.
func TestTreeFirstFault(t *testing.T) {
	spoilt := func(spoil ...func(p []impl.Part)) impl.Tree {
		x := callTree()
		for _, one := range spoil {
			one(x.Parts)
		}
		return x
	}
	lastKind := func(p []impl.Part) { p[8].Kind = impl.SReturn }
	lineAt := func(n int) func(p []impl.Part) { return func(p []impl.Part) { p[n].Line = 100001 } }
	floatAt := func(n int) func(p []impl.Part) { return func(p []impl.Part) { p[n].Flt = 1 } }
	orderAt3 := func(p []impl.Part) { p[3].Kids = []int{2, 1} }
	orderAt5 := func(p []impl.Part) { p[5].Kids = []int{0, 4, 3} }
	orderAt8 := func(p []impl.Part) { p[8].Kids = []int{7} }
	checkTree(t, "1 ahead of 2", spoilt(lastKind, lineAt(0)), impl.Wrong{Code: 1})
	checkTree(t, "1 ahead of 3", spoilt(lastKind, orderAt3), impl.Wrong{Code: 1})
	checkTree(t, "two of code 2", spoilt(lineAt(6), floatAt(2)), impl.Wrong{Code: 2, Part: 2})
	checkTree(t, "two of code 2, the other way round", spoilt(floatAt(6), lineAt(2)), impl.Wrong{Code: 2, Part: 2})
	checkTree(t, "2 at the last part", spoilt(floatAt(8)), impl.Wrong{Code: 2, Part: 8})
	checkTree(t, "2 ahead of 3 at a part ahead", spoilt(orderAt3, floatAt(7)), impl.Wrong{Code: 2, Part: 7})
	checkTree(t, "2 and 3 at one part", spoilt(orderAt5, lineAt(5)), impl.Wrong{Code: 2, Part: 5})
	checkTree(t, "two of code 3", spoilt(orderAt5, orderAt3), impl.Wrong{Code: 3, Part: 3})
	checkTree(t, "3 and the last one", spoilt(orderAt8, orderAt5), impl.Wrong{Code: 3, Part: 5})

	deep := treeOf(deepSheet(101))
	deep.Parts[60].Flt = -1
	checkTree(t, "2 ahead of 4", deep, impl.Wrong{Code: 2, Part: 60})
	deep = treeOf(deepSheet(101))
	deep.Parts[2].Kids = []int{1}
	checkTree(t, "3 ahead of 4", deep, impl.Wrong{Code: 3, Part: 102})
	large := treeOf(wideSheet(3001))
	large.Parts[0].Kind = 0
	checkTree(t, "too many parts ahead of all", large, impl.Wrong{Code: 1})
}

// P3: trees by chance are sound, and spoilt in one or two places have the fault that the list says.
func TestTreesByChance(t *testing.T) {
	t.Parallel()
	r := rand.New(rand.NewSource(51))
	codes := map[int]int{}
	for _, s := range append(grownSheets(52, 1500), someSheets(1000)...) {
		x := treeOf(s)
		checkSoundTree(t, shortly(x), x)
		for range 6 {
			bad := copiedTree(x)
			for range 1 + r.Intn(2) {
				spoilTree(r, &bad)
			}
			want := plainTreeFault(bad)
			checkTree(t, shortly(bad), bad, want)
			codes[want.Code]++
			if want.Code != 0 && (len(impl.Uses(bad)) != 0 || len(impl.Consts(bad)) != 0) {
				t.Errorf("%s is not sound, but has uses %v or consts %v", shortly(bad), impl.Uses(bad), impl.Consts(bad))
			}
		}
	}
	for code := range 4 {
		if codes[code] < 100 {
			t.Errorf("only %d of these trees had the code %d", codes[code], code)
		}
	}
}

// P17: nothing is written into the arguments of the calls of chapter 5, not behind the ends of their lists either.
func TestTreeArguments(t *testing.T) {
	odd := treeOf(oddSheet())
	for _, x := range []impl.Tree{callTree(), treeOf(deepSheet(101)), odd, namesTree(1), namesTree(2), namesTree(3)} {
		x.Parts = slices.Grow(x.Parts, 3)
		kept := copiedTree(x)
		whole := copiedTree(impl.Tree{Parts: x.Parts[:cap(x.Parts)]})
		first, uses, consts := impl.TreeOk(x), impl.Uses(x), impl.Consts(x)
		for range 3 {
			if impl.TreeOk(x) != first || !slices.Equal(impl.Uses(x), uses) || !slices.EqualFunc(impl.Consts(x), consts, sameConst) {
				t.Errorf("not the same answer twice: %s", shortly(kept))
			}
		}
		if !sameTree(x, kept) || !sameTree(whole, impl.Tree{Parts: x.Parts[:cap(x.Parts)]}) {
			t.Errorf("%s is changed", shortly(kept))
		}
	}
}
