package tests

import (
	"math"
	"math/rand"
	"slices"
	"strconv"
	"strings"
	"testing"

	"loop.example/heddle/impl"
)

// floatSheet: a sheet with floats of these texts.
func floatSheet(texts ...string) impl.Sheet {
	var s impl.Sheet
	let := impl.Form{Kind: impl.SLet, Line: 1, Names: []string{"a"}}
	for i, text := range texts {
		s.Forms = append(s.Forms, impl.Form{Kind: impl.EFlt, From: i, To: i + 1, Line: 2, Text: text})
		let.Kids = append(let.Kids, i)
	}
	s.Forms = append(s.Forms, let, impl.Form{Kind: impl.SBlock, Line: 1, Kids: []int{len(texts)}})
	return s
}

// P3: of an EFlt Flt is the float nearest to what its Text tells, and Text is empty.
func TestGrowFloats(t *testing.T) {
	for text, want := range map[string]float64{
		"0.0": 0, "0e9": 0, "0.5": 0.5, "1.5": 1.5, "1e0": 1, "1e5": 1e5, "1e+5": 1e5, "25e-1": 2.5, "0.1": 0.1, "1e22": 1e22, "1e23": 1e23,
		"9223372036854775808": 1 << 63, "18446744073709551616": 1 << 64, strings.Repeat("9", 40): 1e40,
		"9007199254740993.0": 9007199254740992, "9007199254740993.1": 9007199254740994, "9007199254740995.0": 9007199254740996,
		"1.7976931348623157e308": greatest, "1.7976931348623158e308": greatest, "1.7976931348623159e308": math.Inf(1), "1e309": math.Inf(1), "1e99999999": math.Inf(1),
		"5e-324": least, "2.5e-324": least, "2.4e-324": 0, "1e-400": 0, "1e-99999999": 0,
		"2.2250738585072014e-308": 2.2250738585072014e-308, "2.2250738585072011e-308": 2.225073858507201e-308,
		"1.00000000000000011102230246251565404236": 1, "1.00000000000000011102230246251565404237": 1.0000000000000002,
	} {
		x := impl.Grow(floatSheet("0.5", text))
		if len(x.Parts) != 4 || !same(x.Parts[1].Flt, want) || x.Parts[1].Text != "" {
			t.Errorf("%s: %v, want %v", text, x.Parts, want)
		}
		if fault := impl.TreeOk(x); fault != (impl.Wrong{}) {
			t.Errorf("%s: %v", text, fault)
		}
	}
	var texts []string
	for i, f := range someNumbers()[:3000] {
		texts = append(texts, strconv.FormatFloat(math.Abs(f), 'e', i%20, 64))
	}
	for some := range slices.Chunk(texts, 200) {
		for i, p := range impl.Grow(floatSheet(some...)).Parts[:len(some)] {
			if want, _ := strconv.ParseFloat(some[i], 64); !same(p.Flt, want) {
				t.Errorf("%s: %v, want %v", some[i], p.Flt, want)
			}
		}
	}
}

// P3: what no TFlt tells, a hexadecimal float too, is in no sound sheet.
func TestGrowUnsound(t *testing.T) {
	for _, text := range []string{"", "1", "0x1p3", "0x1.8", "0x1.8p1", "-0.5", "+0.5", "inf", "nan", ".5", "1.", "0.5 ", "00.5", "0." + strings.Repeat("5", 39)} {
		if x := impl.Grow(floatSheet("0.5", text)); len(x.Parts) != 0 {
			t.Errorf("%s: %v", text, x)
		}
	}
	for what, s := range unsoundSheets() {
		if x := impl.Grow(s); len(x.Parts) != 0 {
			t.Errorf("%s: %s", what, shortly(x))
		}
	}
	if x := impl.Grow(impl.Sheet{}); len(x.Parts) != 0 {
		t.Error(x)
	}
}

// grownPlainly: what Grow has to answer for a sound sheet.
func grownPlainly(s impl.Sheet) impl.Tree {
	x := treeOf(s)
	for n, f := range s.Forms {
		x.Parts[n].Line = f.Line
	}
	return x
}

// P3: a sound sheet of every Kind has the same parts as a tree, in the same order; what is no sound tree then too.
func TestGrowSheets(t *testing.T) {
	for _, kind := range sheetKinds() {
		s, _ := sheetWith(formAlone(kind), leastKids(kind)...)
		if got := impl.Grow(s); !sameTree(got, grownPlainly(s)) {
			t.Errorf("Kind %d: %s", kind, shortly(got))
		}
	}
	r := rand.New(rand.NewSource(53))
	for _, s := range slices.Concat(grownSheets(54, 500), someSheets(500), []impl.Sheet{wideSheet(3000), deepSheet(100)}) {
		if r.Intn(2) == 0 {
			for n := range s.Forms {
				s.Forms[n].Line, s.Forms[n].From, s.Forms[n].To = n+1, n, 3*n
			}
		}
		if got := impl.Grow(s); !sameTree(got, grownPlainly(s)) {
			t.Fatalf("%s becomes %s", shortly(s), shortly(got))
		}
	}
	far := impl.Sheet{Forms: []impl.Form{{Kind: impl.SBlock, From: 5, To: math.MaxInt, Line: math.MaxInt}}}
	if got := impl.Grow(far); !sameTree(got, grownPlainly(far)) {
		t.Error(got)
	}
	checkTree(t, "a line that no tree has", impl.Grow(far), impl.Wrong{Code: 2})
}

// P3: the tree of a text is sound.
func TestGrowTexts(t *testing.T) {
	text := "let a, b = 1.5, -2e3\nfor i = 1, #a { f(i, ...) }\nfn g(x, ...) { return {x, [1] = 0.25, .k = x.y[0]}, (f()) }\n"
	s := impl.Parse(text).Sheet
	x := impl.Grow(s)
	checkSoundTree(t, text, x)
	if len(x.Parts) != len(s.Forms) || len(x.Parts) == 0 {
		t.Fatal(len(x.Parts), len(s.Forms))
	}
	for n, f := range s.Forms {
		if p := x.Parts[n]; p.From != f.From || p.To != f.To || p.Line != f.Line || p.Kind != f.Kind {
			t.Errorf("part %d: %v of %v", n, p, f)
		}
	}
}

// P3: the answer shares no memory with the sheet, and no two lists of it share any.
func TestGrowSharesNothing(t *testing.T) {
	for _, s := range append(grownSheets(55, 100), callSheet()) {
		kept, want := copiedSheet(s), grownPlainly(s)
		x := impl.Grow(s)
		overwrite(s)
		if !sameTree(x, want) {
			t.Fatalf("the tree of %s shares memory with it", shortly(kept))
		}
		s = copiedSheet(kept)
		x = impl.Grow(s)
		for n := range x.Parts {
			p := &x.Parts[n]
			for i := range p.Names {
				p.Names[i] = "changed"
			}
			for i := range p.Kids {
				p.Kids[i] = -n
			}
			p.Names, p.Kids = append(p.Names, "q"), append(p.Kids, -n)
		}
		for n, p := range x.Parts {
			if slices.ContainsFunc(p.Kids, func(kid int) bool { return kid != -n }) {
				t.Fatalf("part %d of %s: %v", n, shortly(kept), p.Kids)
			}
		}
		if !sameSheet(s, kept) {
			t.Fatalf("%s is changed", shortly(kept))
		}
	}
}
