package tests

import (
	"fmt"
	"math"
	"slices"
	"strconv"
	"strings"
	"testing"

	"loop.example/heddle/impl"
)

// P2: a sheet has 1 to 3000 forms, and the last one is a SBlock.
func TestSheetEnds(t *testing.T) {
	checkSheet(t, "nil", impl.Sheet{}, impl.SheetFault{Code: 1})
	checkSheet(t, "no forms", impl.Sheet{Forms: []impl.Form{}}, impl.SheetFault{Code: 1})
	checkSound(t, "an empty text", impl.Sheet{Forms: []impl.Form{{Kind: impl.SBlock}}})
	checkSound(t, "2999 forms", wideSheet(2999))
	checkSound(t, "3000 forms", wideSheet(3000))
	checkSheet(t, "3001 forms", wideSheet(3001), impl.SheetFault{Code: 1})
	checkSheet(t, "6000 forms", wideSheet(6000), impl.SheetFault{Code: 1})
	for _, kind := range append(sheetKinds(), -1, 0, 17, 43, math.MinInt, math.MaxInt) {
		forms := planted(nil, formAlone(kind), leastKids(kind)...)
		want := impl.SheetFault{Code: 1}
		if kind == impl.SBlock {
			want = impl.SheetFault{}
		}
		checkSheet(t, fmt.Sprint("a last form of Kind ", kind), impl.Sheet{Forms: forms}, want)
	}
}

// wideSheet: a sheet of so many forms: SBreaks in SBlocks of 100 forms, and those in the text.
func wideSheet(count int) impl.Sheet {
	var forms []impl.Form
	var blocks []int
	for len(forms) < count-1 {
		block := impl.Form{Kind: impl.SBlock}
		for range min(99, count-len(forms)-2) {
			block.Kids = append(block.Kids, len(forms))
			forms = append(forms, impl.Form{Kind: impl.SBreak})
		}
		blocks = append(blocks, len(forms))
		forms = append(forms, block)
	}
	return impl.Sheet{Forms: append(forms, impl.Form{Kind: impl.SBlock, Kids: blocks})}
}

// P2: every Kind of the tables, and no other.
func TestSheetKinds(t *testing.T) {
	for kind := -60; kind <= 120; kind++ {
		if _, known := sheetRows[kind]; known {
			checkOneForm(t, fmt.Sprint("Kind ", kind), true, formAlone(kind), leastKids(kind)...)
			continue
		}
		checkSheet(t, fmt.Sprint("Kind ", kind), kindInText(kind), impl.SheetFault{Code: 2})
	}
	for _, kind := range []int{math.MinInt, math.MaxInt, 1 << 32, 1<<32 + impl.SBlock, 256 + impl.SBreak, -impl.SBreak} {
		checkSheet(t, fmt.Sprint("Kind ", kind), kindInText(kind), impl.SheetFault{Code: 2})
	}
}

func kindInText(kind int) impl.Sheet {
	return impl.Sheet{Forms: []impl.Form{{Kind: kind}, {Kind: impl.SBlock, Kids: []int{0}}}}
}

// P2: each field that a row does not name is 0 or empty.
func TestSheetFields(t *testing.T) {
	for _, kind := range sheetKinds() {
		row := sheetRows[kind]
		try := func(what string, sound bool, change func(f *impl.Form)) {
			f := formAlone(kind)
			change(&f)
			checkOneForm(t, fmt.Sprint("Kind ", kind, ", ", what), sound, f, leastKids(kind)...)
		}
		for _, op := range []int{math.MinInt, -1, 0, 1, 2, 17, 18, 19, 20, 21, 22, 23, 1 << 32, 1<<32 + 1, 256 + 1, math.MaxInt} {
			try(fmt.Sprint("Op ", op), row.ops[0] <= op && op <= row.ops[1], func(f *impl.Form) { f.Op = op })
		}
		for _, num := range []int64{math.MinInt64, -1, 0, 1, 2, 1 << 32, math.MaxInt64} {
			try(fmt.Sprint("Num ", num), kind == impl.EInt || num == 0 && kind != impl.SSet || num == 1 && kind == impl.SSet, func(f *impl.Form) { f.Num = num })
		}
		for _, text := range []string{"", "x", "0.5", "5", " ", "\x00", "if", "ünder"} {
			try("Text "+text, plainTextFits(row.text, text), func(f *impl.Form) { f.Text = text })
		}
		for _, count := range []int{0, 1, 2, 3, 199, 200, 201} {
			try(fmt.Sprint(count, " Names"), row.names[0] <= count && count <= row.names[1], func(f *impl.Form) { f.Names = someNames(count) })
		}
		try("no Names, but a list", row.names[0] == 0, func(f *impl.Form) { f.Names = []string{} })
	}
}

func someNames(count int) []string {
	var names []string
	for i := range count {
		names = append(names, "n"+strconv.Itoa(i))
	}
	return names
}

// P2: a form has the kids that its row names, each of a Kind that may stand there.
func TestSheetKids(t *testing.T) {
	for _, kind := range sheetKinds() {
		least := leastKids(kind)
		lists := [][]int{least}
		for i := range least {
			lists = append(lists, slices.Delete(slices.Clone(least), i, i+1))
		}
		for _, kid := range sheetKinds() {
			for i := range least {
				lists = append(lists, slices.Concat(least[:i], []int{kid}, least[i+1:]))
			}
			for i := range len(least) + 1 {
				lists = append(lists, slices.Insert(slices.Clone(least), i, kid))
				lists = append(lists, slices.Insert(slices.Clone(least), i, kid, kid))
			}
		}
		for _, list := range lists {
			checkKidKinds(t, kind, list)
		}
	}
}

func checkKidKinds(t *testing.T, kind int, kids []int) {
	t.Helper()
	s, n := sheetWith(formAlone(kind), kids...)
	want := impl.SheetFault{}
	if !plainShaped(s.Forms, n) {
		want = impl.SheetFault{Code: 2, Form: n}
	}
	checkSheet(t, fmt.Sprint("Kind ", kind, " with kids of Kinds ", kids), s, want)
}

// P2: some rows of the tables in plain words.
func TestSheetRows(t *testing.T) {
	sound := func(kind int, kids ...int) {
		t.Helper()
		checkOneForm(t, fmt.Sprint(kind, kids), true, formAlone(kind), kids...)
	}
	wrong := func(kind int, kids ...int) {
		t.Helper()
		checkOneForm(t, fmt.Sprint(kind, kids), false, formAlone(kind), kids...)
	}
	sound(impl.SIf, impl.EName, impl.SBlock, impl.SBlock)
	sound(impl.SIf, impl.EName, impl.SBlock, impl.SIf)
	wrong(impl.SIf, impl.EName, impl.SIf)
	wrong(impl.SIf, impl.EName, impl.SBlock, impl.SWhile)
	wrong(impl.SIf, impl.EName, impl.SBlock, impl.SBlock, impl.SBlock)
	wrong(impl.SIf, impl.SBlock, impl.SBlock)
	sound(impl.SFor, impl.EInt, impl.ERest, impl.SBlock)
	sound(impl.SFor, impl.EInt, impl.EInt, impl.EFn, impl.SBlock)
	wrong(impl.SFor, impl.EInt, impl.SBlock)
	wrong(impl.SFor, impl.EInt, impl.EInt, impl.EInt)
	wrong(impl.SFor, impl.EInt, impl.EInt, impl.EInt, impl.EInt, impl.SBlock)
	wrong(impl.SFor, impl.EInt, impl.EInt, impl.SBlock, impl.SBlock)
	sound(impl.SBlock, impl.SBlock, impl.SConst, impl.SReturn, impl.SBreak)
	wrong(impl.SBlock, impl.ECall)
	sound(impl.SLet)
	sound(impl.SLet, impl.EInt, impl.ERest, impl.EInt)
	sound(impl.SReturn)
	wrong(impl.SReturn, impl.SBlock)
	sound(impl.EIndex, impl.EFn, impl.ERest)
	wrong(impl.EIndex, impl.ERest, impl.EName)
	wrong(impl.EField, impl.ERest)
	sound(impl.EField, impl.EOne)
	wrong(impl.ECall, impl.ERest)
	sound(impl.ECall, impl.EName, impl.ERest, impl.EInt)
	wrong(impl.ECall)
	sound(impl.EOne, impl.ERest)
	wrong(impl.EOne, impl.EOne)
	sound(impl.ETable, impl.NItem, impl.NNamed, impl.NPair, impl.NItem)
	wrong(impl.ETable, impl.EInt)
	wrong(impl.NItem, impl.NItem)
	wrong(impl.SThrow, impl.NItem)
	sound(impl.STry, impl.SBlock, impl.SBlock)
	wrong(impl.STry, impl.SBlock)
	wrong(impl.SFn, impl.EName)
	wrong(impl.SDefer, impl.EOne)
	wrong(impl.SDo, impl.EName)
}

// P2: Num of a SSet is the number of its targets; behind them stands one expression at least.
func TestSheetTargets(t *testing.T) {
	set := func(num int64) impl.Form { return impl.Form{Kind: impl.SSet, Num: num} }
	kids := []int{impl.EName, impl.EIndex, impl.EField, impl.EName}
	for _, num := range []int64{math.MinInt64, -1, 0, 1, 2, 3, 4, 5, 200, 1 << 32, 1<<32 + 1, math.MaxInt64} {
		checkOneForm(t, fmt.Sprint("Num ", num), num >= 1 && num <= 3, set(num), kids...)
	}
	checkOneForm(t, "no kids", false, set(1))
	checkOneForm(t, "Num 0, no kids", false, set(0))
	checkOneForm(t, "a target alone", false, set(1), impl.EName)
	for _, kind := range sheetKinds() {
		target := kind == impl.EName || kind == impl.EIndex || kind == impl.EField
		checkOneForm(t, fmt.Sprint("a first target of Kind ", kind), target, set(2), kind, impl.EName, impl.EInt)
		checkOneForm(t, fmt.Sprint("a last target of Kind ", kind), target, set(2), impl.EName, kind, impl.EInt)
		checkOneForm(t, fmt.Sprint("an expression of Kind ", kind), kind >= 20 && kind < 40, set(1), impl.EName, impl.EInt, kind)
	}
	many := slices.Repeat([]int{impl.EName}, 200)
	for _, num := range []int64{1, 100, 199, 200, 201} {
		checkOneForm(t, fmt.Sprint("200 kids, Num ", num), num < 200, set(num), many...)
	}
	checkOneForm(t, "201 kids", false, set(1), append(many, impl.EName)...)
}

// P2: no form has more than 200 Kids.
func TestSheetManyKids(t *testing.T) {
	for kind, kid := range map[int]int{
		impl.SBlock: impl.SBreak, impl.SLet: impl.ENil, impl.SReturn: impl.ERest, impl.SSet: impl.EName, impl.ECall: impl.EName, impl.ETable: impl.NItem,
	} {
		for _, count := range []int{199, 200, 201, 1000} {
			checkOneForm(t, fmt.Sprint("Kind ", kind, " with ", count, " kids"), count <= 200, formAlone(kind), slices.Repeat([]int{kid}, count)...)
		}
	}
}

// P2: Names are names: 1 to 40 bytes, written as a TName, no words.
func TestSheetNames(t *testing.T) {
	for text, sound := range someTextsAsNames() {
		checkOneForm(t, fmt.Sprintf("EName %.50q", text), sound, impl.Form{Kind: impl.EName, Text: text})
		checkOneForm(t, fmt.Sprintf("EField %.50q", text), sound, impl.Form{Kind: impl.EField, Text: text}, impl.EName)
		checkOneForm(t, fmt.Sprintf("NNamed %.50q", text), sound, impl.Form{Kind: impl.NNamed, Text: text}, impl.EName)
		for _, kind := range []int{impl.SConst, impl.SFn, impl.SFor, impl.SLet, impl.SEach, impl.STry, impl.EFn} {
			what := fmt.Sprintf("Kind %d, %.50q", kind, text)
			f := formAlone(kind)
			f.Names = []string{text}
			checkOneForm(t, what+" alone", sound, f, leastKids(kind)...)
			if sheetRows[kind].names[1] > 1 {
				f.Names = []string{"a", text}
				checkOneForm(t, what+" behind another", sound, f, leastKids(kind)...)
				f.Names = []string{text, text}
				checkOneForm(t, what+" twice", sound, f, leastKids(kind)...)
			}
		}
	}
}

func someTextsAsNames() map[string]bool {
	texts := map[string]bool{
		"": false, "a": true, "_": true, "Z": true, "z9": true, "__9": true, "A0": true,
		strings.Repeat("n", 39): true, strings.Repeat("n", 40): true, strings.Repeat("n", 41): false, strings.Repeat("_", 5000): false,
		"9": false, "9a": false, "a b": false, " a": false, "a ": false, "a\n": false, "\na": false, "a-b": false, "a.b": false, "a--": false, "--": false,
		"If": true, "ifs": true, "an": true, "_if": true, "print": true, "self": true,
		"é": false, "aé": false, "a\x00": false, "\xff": false, "a;": false, "\"a\"": false, "0x1": false, "...": false,
	}
	for kind, text := range fixedKinds {
		if kind >= 10 && kind <= 31 {
			texts[text] = false
		}
	}
	for b := range 256 {
		letter := b >= 'a' && b <= 'z' || b >= 'A' && b <= 'Z' || b == '_'
		texts[string([]byte{byte(b)})] = letter
		texts[string([]byte{'q', byte(b)})] = letter || b >= '0' && b <= '9'
	}
	return texts
}

// P2: a STry has 1 or 2 Names, an EFn any parameters, the same one twice too.
func TestSheetParameters(t *testing.T) {
	for count := range 4 {
		f := impl.Form{Kind: impl.STry, Names: someNames(count)}
		checkOneForm(t, fmt.Sprint("STry with ", count), count == 1 || count == 2, f, impl.SBlock, impl.SBlock)
	}
	for op := -2; op <= 3; op++ {
		f := impl.Form{Kind: impl.EFn, Op: op, Names: []string{"a", "a", "b"}}
		checkOneForm(t, fmt.Sprint("EFn with Op ", op), op == 0 || op == 1, f, impl.SBlock)
	}
	checkOneForm(t, "the same name twice", true, impl.Form{Kind: impl.SLet, Names: []string{"a", "a"}})
}

// P2: Text of an EStr has at most 4000 bytes, of any kind.
func TestSheetStrings(t *testing.T) {
	for _, piece := range []string{"a", "\x00", "\"", "\n", "\xff", "é"} {
		for _, size := range []int{0, 1, 3999, 4000, 4001, 70000} {
			text := strings.Repeat(piece, size/len(piece)+1)[:size]
			checkOneForm(t, fmt.Sprintf("EStr of %d bytes %q", size, piece), size <= 4000, impl.Form{Kind: impl.EStr, Text: text})
		}
	}
}

// P2: Text of an EFlt is that of a TFlt of at most 40 bytes: so no int.
func TestSheetFloats(t *testing.T) {
	for text, sound := range map[string]bool{
		"": false, "0": false, "1": false, "9223372036854775807": false, "9223372036854775808": true, "12345678901234567890": true,
		"0.0": true, "0.5": true, "00.5": false, "01.5": false, "1.": false, ".5": false, "1.5": true, "1e5": true, "0e0": true, "1E5": false, "1e+5": true, "1e-5": true,
		"1e": false, "1e+": false, "1.5e400": true, "1e5.5": false, "1.5.5": false, "0x": false, "0x1": false, "0x1.5": false, "0x1p3": false, "0x11111111111111111": false,
		"-1.5": false, "+1.5": false, " 1.5": false, "1.5 ": false, "1.5\n": false, "1.5--": false, "1_0.5": false, "inf": false, "nan": false, "1.5f": false, "\"1.5\"": false,
		strings.Repeat("9", 19): true, strings.Repeat("9", 18): false, strings.Repeat("9", 40): true, strings.Repeat("9", 41): false,
		"0." + strings.Repeat("5", 38): true, "0." + strings.Repeat("5", 39): false, "1e" + strings.Repeat("0", 38): true, "1e" + strings.Repeat("0", 39): false,
		strings.Repeat("1", 5000): false,
	} {
		checkOneForm(t, fmt.Sprintf("EFlt %.50q", text), sound, impl.Form{Kind: impl.EFlt, Text: text})
	}
}

// P2: 0 <= From <= To, and Line of 0 or more.
func TestSheetPlaces(t *testing.T) {
	edges := []int{math.MinInt, -2, -1, 0, 1, 2, math.MaxInt - 1, math.MaxInt}
	for _, kind := range sheetKinds() {
		for _, from := range edges {
			for _, to := range edges {
				f := formAlone(kind)
				f.From, f.To = from, to
				checkOneForm(t, fmt.Sprint("Kind ", kind, " from ", from, " to ", to), 0 <= from && from <= to, f, leastKids(kind)...)
			}
		}
		for _, line := range edges {
			f := formAlone(kind)
			f.Line = line
			checkOneForm(t, fmt.Sprint("Kind ", kind, " in line ", line), line >= 0, f, leastKids(kind)...)
		}
	}
	last := impl.Form{Kind: impl.SBlock, From: math.MaxInt, To: math.MaxInt, Line: math.MaxInt}
	checkSound(t, "the last form at the greatest places", impl.Sheet{Forms: []impl.Form{last}})
	last.To--
	checkSheet(t, "the last form with To below From", impl.Sheet{Forms: []impl.Form{last}}, impl.SheetFault{Code: 2})
}
