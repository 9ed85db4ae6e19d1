package tests

import (
	"fmt"
	"math"
	"slices"
	"strings"
	"testing"

	"loop.example/heddle/impl"
)

// P3: a tree has 1 to 3000 parts, and the last one is a SBlock.
func TestTreeEnds(t *testing.T) {
	checkTree(t, "nil", impl.Tree{}, impl.Wrong{Code: 1})
	checkTree(t, "no parts", impl.Tree{Parts: []impl.Part{}}, impl.Wrong{Code: 1})
	checkSoundTree(t, "an empty text", impl.Tree{Parts: []impl.Part{{Kind: impl.SBlock, Line: 1}}})
	checkSoundTree(t, "2999 parts", treeOf(wideSheet(2999)))
	checkSoundTree(t, "3000 parts", treeOf(wideSheet(3000)))
	checkTree(t, "3001 parts", treeOf(wideSheet(3001)), impl.Wrong{Code: 1})
	checkTree(t, "6000 parts", treeOf(wideSheet(6000)), impl.Wrong{Code: 1})
	for _, kind := range append(sheetKinds(), -1, 0, 17, 43, math.MinInt, math.MaxInt) {
		x := treeOf(impl.Sheet{Forms: planted(nil, formAlone(kind), leastKids(kind)...)})
		want := impl.Wrong{Code: 1}
		if kind == impl.SBlock {
			want = impl.Wrong{}
		}
		checkTree(t, fmt.Sprint("a last part of Kind ", kind), x, want)
	}
}

// P3: every Kind of the tables, and no other.
func TestTreeKinds(t *testing.T) {
	for kind := -60; kind <= 120; kind++ {
		if _, known := sheetRows[kind]; known {
			checkOnePart(t, fmt.Sprint("Kind ", kind), true, partAlone(kind), leastKids(kind)...)
			continue
		}
		checkTree(t, fmt.Sprint("Kind ", kind), treeOf(kindInText(kind)), impl.Wrong{Code: 2})
	}
	for _, kind := range []int{math.MinInt, math.MaxInt, 1 << 32, 1<<32 + impl.SBlock, 256 + impl.SBreak, -impl.SBreak} {
		checkTree(t, fmt.Sprint("Kind ", kind), treeOf(kindInText(kind)), impl.Wrong{Code: 2})
	}
}

// P3: each field that a row does not name is 0 or empty.
func TestTreeFields(t *testing.T) {
	for _, kind := range sheetKinds() {
		row := sheetRows[kind]
		try := func(what string, sound bool, change func(p *impl.Part)) {
			t.Helper()
			p := partAlone(kind)
			change(&p)
			checkOnePart(t, fmt.Sprint("Kind ", kind, ", ", what), sound, p, leastKids(kind)...)
		}
		for _, op := range []int{math.MinInt, -1, 0, 1, 2, 17, 18, 19, 20, 21, 22, 23, 1 << 32, 1<<32 + 1, 256 + 1, math.MaxInt} {
			try(fmt.Sprint("Op ", op), row.ops[0] <= op && op <= row.ops[1], func(p *impl.Part) { p.Op = op })
		}
		for _, num := range []int64{math.MinInt64, -1, 0, 1, 2, 1 << 32, math.MaxInt64} {
			sound := kind == impl.EInt || num == 0 && kind != impl.SSet || num == 1 && kind == impl.SSet
			try(fmt.Sprint("Num ", num), sound, func(p *impl.Part) { p.Num = num })
		}
		for _, text := range []string{"", "x", "0.5", "5", " ", "\x00", "if", "ünder"} {
			rule := strings.ReplaceAll(row.text, "float", "")
			try("Text "+text, plainTextFits(rule, text), func(p *impl.Part) { p.Text = text })
		}
		for _, count := range []int{0, 1, 2, 3, 199, 200, 201} {
			try(fmt.Sprint(count, " Names"), row.names[0] <= count && count <= row.names[1], func(p *impl.Part) { p.Names = someNames(count) })
		}
		try("no Names, but a list", row.names[0] == 0, func(p *impl.Part) { p.Names = []string{} })
	}
}

// P3: Flt of an EFlt is no NaN, of any other part a zero of either sign.
func TestTreeFloats(t *testing.T) {
	nans := []float64{math.NaN(), math.Float64frombits(0x7ff0000000000001), math.Float64frombits(0xffffffffffffffff), math.Float64frombits(0xfff8000000000000)}
	others := []float64{1, -1, least, -least, greatest, -greatest, 0.5, 1e300, math.Inf(1), math.Inf(-1), math.Float64frombits(1 << 52)}
	for _, kind := range sheetKinds() {
		try := func(f float64, sound bool) {
			t.Helper()
			p := partAlone(kind)
			p.Flt = f
			checkOnePart(t, fmt.Sprint("Kind ", kind, ", Flt ", f), sound, p, leastKids(kind)...)
		}
		try(0, true)
		try(minusZero, true)
		for _, f := range nans {
			try(f, false)
		}
		for _, f := range others {
			try(f, kind == impl.EFlt)
		}
	}
	for _, text := range []string{"0.5", "1e5", "nan", "inf", "x", " ", "\x00"} {
		checkOnePart(t, "EFlt with Text "+text, false, impl.Part{Kind: impl.EFlt, Flt: 0.5, Text: text})
	}
}

// P3: 0 <= From <= To; Line from 0, of a statement from 1, up to 100000.
func TestTreePlaces(t *testing.T) {
	edges := []int{math.MinInt, -2, -1, 0, 1, 2, math.MaxInt - 1, math.MaxInt}
	for _, kind := range sheetKinds() {
		for _, from := range edges {
			for _, to := range edges {
				p := partAlone(kind)
				p.From, p.To = from, to
				checkOnePart(t, fmt.Sprint("Kind ", kind, " from ", from, " to ", to), 0 <= from && from <= to, p, leastKids(kind)...)
			}
		}
		for _, line := range []int{math.MinInt, -100000, -1, 0, 1, 2, 99999, 100000, 100001, 1<<32 + 1, math.MaxInt} {
			p := partAlone(kind)
			p.Line = line
			sound := line >= 1 && line <= 100000 || line == 0 && kind >= 20
			checkOnePart(t, fmt.Sprint("Kind ", kind, " in line ", line), sound, p, leastKids(kind)...)
		}
	}
	last := impl.Part{Kind: impl.SBlock, From: math.MaxInt, To: math.MaxInt, Line: 100000}
	checkSoundTree(t, "the last part at the greatest places", impl.Tree{Parts: []impl.Part{last}})
	last.To--
	checkTree(t, "the last part with To below From", impl.Tree{Parts: []impl.Part{last}}, impl.Wrong{Code: 2})
	checkTree(t, "the last part without a Line", impl.Tree{Parts: []impl.Part{{Kind: impl.SBlock}}}, impl.Wrong{Code: 2})
	checkTree(t, "the last part in line 100001", impl.Tree{Parts: []impl.Part{{Kind: impl.SBlock, Line: 100001}}}, impl.Wrong{Code: 2})
}

// P3: a part has the kids that its row names, each of a Kind that may stand there.
func TestTreeKids(t *testing.T) {
	for _, kind := range sheetKinds() {
		least := leastKids(kind)
		lists := [][]int{least}
		for i := range least {
			lists = append(lists, slices.Delete(slices.Clone(least), i, i+1))
		}
		for _, kid := range sheetKinds() {
			for i := range least {
				lists = append(lists, slices.Concat(least[:i], []int{kid}, least[i+1:]))
			}
			for i := range len(least) + 1 {
				lists = append(lists, slices.Insert(slices.Clone(least), i, kid))
				lists = append(lists, slices.Insert(slices.Clone(least), i, kid, kid))
			}
		}
		for _, list := range lists {
			x, _ := treeWith(partAlone(kind), list...)
			checkTree(t, fmt.Sprint("Kind ", kind, " with kids of Kinds ", list), x, plainTreeFault(x))
		}
	}
}

// P3: some rows of the tables in plain words.
func TestTreeRows(t *testing.T) {
	sound := func(kind int, kids ...int) {
		t.Helper()
		checkOnePart(t, fmt.Sprint(kind, kids), true, partAlone(kind), kids...)
	}
	wrong := func(kind int, kids ...int) {
		t.Helper()
		checkOnePart(t, fmt.Sprint(kind, kids), false, partAlone(kind), kids...)
	}
	sound(impl.SIf, impl.EName, impl.SBlock, impl.SIf)
	wrong(impl.SIf, impl.EName, impl.SIf)
	wrong(impl.SIf, impl.EName, impl.SBlock, impl.SWhile)
	sound(impl.SFor, impl.EInt, impl.EInt, impl.EFn, impl.SBlock)
	wrong(impl.SFor, impl.EInt, impl.SBlock)
	sound(impl.SBlock, impl.SBlock, impl.SConst, impl.SReturn)
	wrong(impl.SBlock, impl.ECall)
	sound(impl.SLet)
	sound(impl.EIndex, impl.EFn, impl.ERest)
	wrong(impl.EIndex, impl.ERest, impl.EName)
	wrong(impl.EField, impl.ERest)
	wrong(impl.ECall, impl.ERest)
	sound(impl.ECall, impl.EName, impl.ERest, impl.EInt)
	sound(impl.EOne, impl.ERest)
	wrong(impl.EOne, impl.EOne)
	sound(impl.ETable, impl.NItem, impl.NNamed, impl.NPair)
	wrong(impl.ETable, impl.EInt)
	wrong(impl.SThrow, impl.NItem)
	wrong(impl.STry, impl.SBlock)
	wrong(impl.SFn, impl.EName)
	wrong(impl.SDefer, impl.EOne)
	wrong(impl.SDo, impl.EName)
}

// P3: Num of a SSet is the number of its targets; behind them stands one expression at least.
func TestTreeTargets(t *testing.T) {
	set := func(num int64) impl.Part { return impl.Part{Kind: impl.SSet, Line: 1, Num: num} }
	kids := []int{impl.EName, impl.EIndex, impl.EField, impl.EName}
	for _, num := range []int64{math.MinInt64, -1, 0, 1, 2, 3, 4, 5, 200, 1 << 32, 1<<32 + 1, math.MaxInt64} {
		checkOnePart(t, fmt.Sprint("Num ", num), num >= 1 && num <= 3, set(num), kids...)
	}
	checkOnePart(t, "no kids", false, set(1))
	checkOnePart(t, "a target alone", false, set(1), impl.EName)
	for _, kind := range sheetKinds() {
		target := kind == impl.EName || kind == impl.EIndex || kind == impl.EField
		checkOnePart(t, fmt.Sprint("a first target of Kind ", kind), target, set(2), kind, impl.EName, impl.EInt)
		checkOnePart(t, fmt.Sprint("a last target of Kind ", kind), target, set(2), impl.EName, kind, impl.EInt)
		checkOnePart(t, fmt.Sprint("an expression of Kind ", kind), kind >= 20 && kind < 40, set(1), impl.EName, impl.EInt, kind)
	}
	many := slices.Repeat([]int{impl.EName}, 200)
	for _, num := range []int64{1, 199, 200, 201} {
		checkOnePart(t, fmt.Sprint("200 kids, Num ", num), num < 200, set(num), many...)
	}
}

// P3: no part has more than 200 Kids.
func TestTreeManyKids(t *testing.T) {
	for kind, kid := range map[int]int{
		impl.SBlock: impl.SBreak, impl.SLet: impl.ENil, impl.SReturn: impl.ERest, impl.SSet: impl.EName, impl.ECall: impl.EName, impl.ETable: impl.NItem,
	} {
		for _, count := range []int{199, 200, 201, 1000} {
			checkOnePart(t, fmt.Sprint("Kind ", kind, " with ", count, " kids"), count <= 200, partAlone(kind), slices.Repeat([]int{kid}, count)...)
		}
	}
}

// P3: a name has 1 to 40 bytes, letters and digits, no digit first, and is no word.
func TestTreeNames(t *testing.T) {
	for text, sound := range someTextsAsNames() {
		checkOnePart(t, fmt.Sprintf("EName %.50q", text), sound, impl.Part{Kind: impl.EName, Text: text})
		checkOnePart(t, fmt.Sprintf("EField %.50q", text), sound, impl.Part{Kind: impl.EField, Text: text}, impl.EName)
		checkOnePart(t, fmt.Sprintf("NNamed %.50q", text), sound, impl.Part{Kind: impl.NNamed, Text: text}, impl.EName)
		for _, kind := range []int{impl.SConst, impl.SFn, impl.SFor, impl.SLet, impl.SEach, impl.STry, impl.EFn} {
			what := fmt.Sprintf("Kind %d, %.50q", kind, text)
			p := partAlone(kind)
			p.Names = []string{text}
			checkOnePart(t, what+" alone", sound, p, leastKids(kind)...)
			if sheetRows[kind].names[1] > 1 {
				p.Names = []string{"a", text}
				checkOnePart(t, what+" behind another", sound, p, leastKids(kind)...)
				p.Names = []string{text, text}
				checkOnePart(t, what+" twice", sound, p, leastKids(kind)...)
			}
		}
	}
}

// P3: Text of an EStr has at most 4000 bytes, of any kind.
func TestTreeStrings(t *testing.T) {
	for _, piece := range []string{"a", "\x00", "\"", "\n", "\xff", "é"} {
		for _, size := range []int{0, 1, 3999, 4000, 4001, 70000} {
			text := strings.Repeat(piece, size/len(piece)+1)[:size]
			checkOnePart(t, fmt.Sprintf("EStr of %d bytes %q", size, piece), size <= 4000, impl.Part{Kind: impl.EStr, Text: text})
		}
	}
}
