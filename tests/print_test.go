package tests

import (
	"fmt"
	"slices"
	"strings"
	"testing"

	"loop.example/heddle/impl"
)

// printRows: how each Kind is printed. $0, $1 .. are its kids, $* all of them in a list, $n its Names, $t its Text, <..> a part that stands
// only when there is a kid in it.
var printRows = map[int]string{
	impl.SLet: "let $n< = $*>", impl.SConst: "const $n = $0", impl.SFn: "fn $n$0", impl.SDo: "$0", impl.SWhile: "while $0 $1", impl.SEach: "for $n in $0 $1",
	impl.SBreak: "break", impl.SNext: "next", impl.SReturn: "return< $*>", impl.STry: "try $0 catch $n $1", impl.SThrow: "throw $0", impl.SDefer: "defer $0",
	impl.ETable: "{$*}", impl.EOne: "($0)", impl.NItem: "$0", impl.NPair: "[$0] = $1", impl.NNamed: ".$t = $0", impl.EIndex: "$0[$1]", impl.EField: "$0.$t",
}

// plainPrint: a form as the document prints it.
func plainPrint(forms []impl.Form, n int) string {
	f := forms[n]
	kids := make([]string, len(f.Kids))
	for i, kid := range f.Kids {
		kids[i] = plainPrint(forms, kid)
	}
	in := func(i int, needs bool) string {
		if needs {
			return "(" + kids[i] + ")"
		}
		return kids[i]
	}
	list := func(texts []string) string { return strings.Join(texts, ", ") }
	switch f.Kind {
	case impl.SBlock:
		return plainBlock(kids)
	case impl.SSet:
		return list(kids[:f.Num]) + " = " + list(kids[f.Num:])
	case impl.SFor:
		last := len(kids) - 1
		return "for " + f.Names[0] + " = " + list(kids[:last]) + " " + kids[last]
	case impl.SIf:
		return "if " + kids[0] + " " + kids[1] + plainElse(forms, f.Kids[2:], kids[2:])
	case impl.SFn:
		return "fn " + f.Names[0] + strings.TrimPrefix(kids[0], "fn")
	case impl.EAnd, impl.EOr, impl.EBinary:
		infix := infixText(f)
		return in(0, needsParens(infix, forms[f.Kids[0]], false)) + " " + infix + " " + in(1, needsParens(infix, forms[f.Kids[1]], true))
	case impl.EUnary:
		return plainPrefixed(f, in(0, infixText(forms[f.Kids[0]]) != ""))
	case impl.EFn:
		params := slices.Clone(f.Names)
		if f.Op == 1 {
			params = append(params, "...")
		}
		return "fn(" + list(params) + ") " + kids[0]
	case impl.ECall:
		return in(0, !isSuffixed(forms[f.Kids[0]].Kind)) + "(" + list(kids[1:]) + ")"
	case impl.EIndex, impl.EField:
		kids[0] = in(0, !isSuffixed(forms[f.Kids[0]].Kind))
	}
	row, has := printRows[f.Kind]
	if !has {
		return plainTokenText(f)
	}
	return filledRow(row, f, kids)
}

func filledRow(row string, f impl.Form, kids []string) string {
	if from, to := strings.Index(row, "<"), strings.Index(row, ">"); from >= 0 {
		inner := row[from+1 : to]
		if len(kids) == 0 {
			inner = ""
		}
		row = row[:from] + inner + row[to+1:]
	}
	parts := []string{"$n", strings.Join(f.Names, ", "), "$t", f.Text, "$*", strings.Join(kids, ", ")}
	for i, kid := range kids {
		parts = append(parts, fmt.Sprintf("$%d", i), kid)
	}
	return strings.NewReplacer(parts...).Replace(row)
}

// plainBlock: no line of a statement holds a newline of its own but those of blocks within it.
func plainBlock(kids []string) string {
	if len(kids) == 0 {
		return "{}"
	}
	return "{" + strings.ReplaceAll("\n"+strings.Join(kids, "\n"), "\n", "\n\t") + "\n}"
}

func plainElse(forms []impl.Form, places []int, kids []string) string {
	switch {
	case len(kids) == 0:
		return ""
	case forms[places[0]].Kind == impl.SIf:
		return " el" + kids[0]
	}
	return " else " + kids[0]
}

func plainPrefixed(f impl.Form, operand string) string {
	prefix := prefixText(f.Op)
	if prefix == "not" || prefix == "-" && operand[0] == '-' {
		prefix += " "
	}
	return prefix + operand
}

func plainPrinted(s impl.Sheet) string {
	var out strings.Builder
	for _, kid := range s.Forms[len(s.Forms)-1].Kids {
		out.WriteString(plainPrint(s.Forms, kid) + "\n")
	}
	return out.String()
}

func TestPrintByChance(t *testing.T) {
	for _, s := range append(grownSheets(21, 3000), someSheets(200)...) {
		before := copiedSheet(s)
		text := impl.Print(s)
		if want := plainPrinted(s); text != want {
			t.Fatalf("printed\n%s\nwant\n%s", text, want)
		}
		if !sameSheet(s, before) {
			t.Fatalf("%q: the sheet is written into", text)
		}
		p := impl.Parse(text)
		if p.Code != 0 || !sameSheet(impl.Bare(p.Sheet), impl.Bare(s)) {
			t.Fatalf("%q: code %d at %d, or another sheet", text, p.Code, p.At)
		}
		if again := impl.Print(p.Sheet); again != text || impl.Tidied(text) != text {
			t.Fatalf("%q is tidied to %q", text, again)
		}
	}
}

// TestPrintNoParenthesesLost: of the parentheses that are printed none can be left out.
func TestPrintNoParenthesesLost(t *testing.T) {
	for _, one := range infixTexts() {
		for _, two := range infixTexts() {
			for _, shape := range []string{"x = (a %s b) %s c", "x = a %s (b %s c)"} {
				text := fmt.Sprintf(shape, one, two)
				printed := impl.Tidied(text)
				without := strings.NewReplacer("(", "", ")", "").Replace(text)
				want := text
				if bareTold(without) == bareTold(text) {
					want = without
				}
				if printed != want+"\n" {
					t.Errorf("%q is tidied to %q", text, printed)
				}
			}
		}
	}
}

func TestPrintRows(t *testing.T) {
	for text, want := range map[string]string{
		"let a":                             "let a",
		"let a,b=e,f":                       "let a, b = e, f",
		"const a=e":                         "const a = e",
		"fn a(b,c){}":                       "fn a(b, c) {}",
		"fn a(){b()}":                       "fn a() {\n\tb()\n}",
		"fn a(...){}":                       "fn a(...) {}",
		"fn a(b,...){}":                     "fn a(b, ...) {}",
		"t,u=e,f":                           "t, u = e, f",
		"t.a,u[b]=e":                        "t.a, u[b] = e",
		"f(a,b)":                            "f(a, b)",
		"if e{f()}elif g{h()}else{i()}":     "if e {\n\tf()\n} elif g {\n\th()\n} else {\n\ti()\n}",
		"if e{}elif f{}elif g{}":            "if e {} elif f {} elif g {}",
		"if e{}else{if f{}}":                "if e {} else {\n\tif f {}\n}",
		"while e{next}":                     "while e {\n\tnext\n}",
		"for a=e,f{}":                       "for a = e, f {}",
		"for a=e,f,g{break}":                "for a = e, f, g {\n\tbreak\n}",
		"for a,b in e{}":                    "for a, b in e {}",
		"for a in e{}":                      "for a in e {}",
		"return":                            "return",
		"return e,f":                        "return e, f",
		"try{}catch a{}":                    "try {} catch a {}",
		"try{f()}catch a,b{g()}":            "try {\n\tf()\n} catch a, b {\n\tg()\n}",
		"throw e":                           "throw e",
		"defer f(a)":                        "defer f(a)",
		"{}":                                "{}",
		"{{};{f()}}":                        "{\n\t{}\n\t{\n\t\tf()\n\t}\n}",
		"x=nil;x=true;x=false;x=...":        "x = nil\nx = true\nx = false\nx = ...",
		"x=0x0f;x=0x8000000000000000":       "x = 15\nx = 0x8000000000000000",
		"x=007":                             "",
		"x=1.50;x=10e+01":                   "x = 1.50\nx = 10e+01",
		`x="\x41\x7f\"";x="é"`:              `x = "A\x7f\""` + "\nx = \"\\xc3\\xa9\"",
		"x=a and b or c":                    "x = a and b or c",
		"x=a and(b or c)":                   "x = a and (b or c)",
		"x=not a;x=not not a;x=not(a)":      "x = not a\nx = not not a\nx = not a",
		"x=-a;x=- -a;x=-(-a);x=- - -a":      "x = -a\nx = - -a\nx = - -a\nx = - - -a",
		"x=-not a;x=not-a;x=~~a;x=##a":      "x = -not a\nx = not -a\nx = ~~a\nx = ##a",
		"x=-~-a;x=-#a":                      "x = -~-a\nx = -#a",
		"x=a- -b;x=a-(-b);x=-a-b":           "x = a - -b\nx = a - -b\nx = -a - b",
		"x=-(a+b);x=not(a and b);x=#(a..b)": "x = -(a + b)\nx = not (a and b)\nx = #(a .. b)",
		"x=(-a)+b;x=(not a)==b":             "x = -a + b\nx = not a == b",
		"x=e[f];x=e.a;x=e(f,g);x=e()":       "x = e[f]\nx = e.a\nx = e(f, g)\nx = e()",
		"x=e[(f)];x=e((f))":                 "x = e[f]\nx = e(f)",
		"x={e,[f]=g,.a=h};x={};x={e,}":      "x = {e, [f] = g, .a = h}\nx = {}\nx = {e}",
		"x={(e),[(f)]=(g),.a=(h)}":          "x = {e, [f] = g, .a = h}",
		"x=(f());x=((f()));x=(...)":         "x = (f())\nx = (f())\nx = (...)",
		"x=fn(a,b){};x=fn(){}":              "x = fn(a, b) {}\nx = fn() {}",
		"x=(a)[1];x=(a.b).c;x=(a[b])()":     "x = a[1]\nx = a.b.c\nx = a[b]()",
		"x=(f()).a;x=f().a;x=(...)[1]":      "x = (f()).a\nx = f().a\nx = (...)[1]",
	} {
		if want != "" {
			want += "\n"
		}
		if got := impl.Tidied(text); got != want {
			t.Errorf("%q: %q, want %q", text, got, want)
		}
	}
}

// TestPrintSuffixes: around what a suffix follows stand parentheses, unless it is one of five Kinds.
func TestPrintSuffixes(t *testing.T) {
	for text, stands := range map[string]bool{
		"a": false, "a.b": false, "a[1]": false, "f()": false, "nil": true, "true": true, "false": true, "5": true, "1.5": true, `"q"`: true, "a and b": true,
		"a or b": true, "-a": true, "not a": true, "a + b": true, "{}": true, "fn() {}": true, "0xffffffffffffffff": true,
	} {
		want := text
		if stands {
			want = "(" + text + ")"
		}
		for _, suffix := range []string{".x", "[1]", "()", "(a, b)"} {
			if text == "f()" {
				checkTidied(t, "x = f()"+suffix, "x = f()"+suffix+"\n")
			}
			checkTidied(t, "x = "+want+suffix, "x = "+want+suffix+"\n")
			checkTidied(t, want+suffix+".y = 1", want+suffix+".y = 1\n")
		}
	}
}

func checkTidied(t *testing.T, text, want string) {
	t.Helper()
	if got := impl.Tidied(text); got != want {
		t.Errorf("%q: %q, want %q", text, got, want)
	}
}

func TestPrintTabs(t *testing.T) {
	checkTidied(t, "fn f(){if a{while b{f(fn(){g()},{fn(){return}})}}}", strings.Join([]string{
		"fn f() {",
		"\tif a {",
		"\t\twhile b {",
		"\t\t\tf(fn() {",
		"\t\t\t\tg()",
		"\t\t\t}, {fn() {",
		"\t\t\t\treturn",
		"\t\t\t}})",
		"\t\t}",
		"\t}",
		"}",
		"",
	}, "\n"))
	checkTidied(t, "{x=fn(){y=fn(){z()}+1};if fn(){a()}{b()}}", strings.Join([]string{
		"{",
		"\tx = fn() {",
		"\t\ty = fn() {",
		"\t\t\tz()",
		"\t\t} + 1",
		"\t}",
		"\tif fn() {",
		"\t\ta()",
		"\t} {",
		"\t\tb()",
		"\t}",
		"}",
		"",
	}, "\n"))
	checkTidied(t, "try{try{f()}catch a{}}catch b{{{g()}}}", "try {\n\ttry {\n\t\tf()\n\t} catch a {}\n} catch b {\n\t{\n\t\t{\n\t\t\tg()\n\t\t}\n\t}\n}\n")
}

// stringSheet: a text of throws of strings with so many bytes.
func stringSheet(piece string, sizes ...int) impl.Sheet {
	var s impl.Sheet
	var kids []int
	for _, size := range sizes {
		s.Forms = append(s.Forms, impl.Form{Kind: impl.EStr, Text: strings.Repeat(piece, size)}, impl.Form{Kind: impl.SThrow, Kids: []int{len(s.Forms)}})
		kids = append(kids, len(s.Forms)-1)
	}
	s.Forms = append(s.Forms, impl.Form{Kind: impl.SBlock, Kids: kids})
	return s
}

func TestPrintLength(t *testing.T) {
	sizes := slices.Repeat([]int{4000}, 16)
	for piece, size := range map[string]int{"q": 1, "\n": 2, "\xff": 4} {
		full := sizes[:16/size]
		left := impl.MaxText - len(full)*(4000*size+9) - 9
		most := stringSheet(piece, append(slices.Clone(full), left/size)...)
		if got := impl.Print(most); len(got) != impl.MaxText-left%size {
			t.Errorf("%q: %d bytes", piece, len(got))
		}
		if got := impl.Print(stringSheet(piece, append(slices.Clone(full), left/size+1)...)); got != "" {
			t.Errorf("%q: %d bytes with one more", piece, len(got))
		}
	}
	if got := impl.Print(stringSheet("\x00", slices.Repeat([]int{4000}, 200)...)); got != "" {
		t.Errorf("a long text: %d bytes", len(got))
	}
}

func TestPrintUnsound(t *testing.T) {
	for what, s := range unsoundSheets() {
		if got := impl.Print(s); got != "" {
			t.Errorf("%s: %q", what, shortly(got))
		}
		if got := impl.Dump(s); got != "" {
			t.Errorf("%s: %q", what, shortly(got))
		}
		if got := impl.Outline(s); len(got) != 0 {
			t.Errorf("%s: %v", what, got)
		}
	}
}

// unsoundSheets: one for each code of SheetOk, and such as have a fn.
func unsoundSheets() map[string]impl.Sheet {
	good := impl.Parse("fn f() { g() }").Sheet
	with := func(change func(forms []impl.Form) []impl.Form) impl.Sheet {
		return impl.Sheet{Forms: change(copiedSheet(good).Forms)}
	}
	return map[string]impl.Sheet{
		"no forms":      {},
		"no text":       with(func(forms []impl.Form) []impl.Form { return forms[:len(forms)-1] }),
		"a kid beyond":  with(func(forms []impl.Form) []impl.Form { forms[len(forms)-1].Kids[0] = 99; return forms }),
		"a kid below":   with(func(forms []impl.Form) []impl.Form { forms[len(forms)-1].Kids[0] = -1; return forms }),
		"no kid":        with(func(forms []impl.Form) []impl.Form { forms[4].Kids = nil; return forms }),
		"no name":       with(func(forms []impl.Form) []impl.Form { forms[5].Names = nil; return forms }),
		"a wrong Kind":  with(func(forms []impl.Form) []impl.Form { forms[0].Kind = 99; return forms }),
		"a wrong place": with(func(forms []impl.Form) []impl.Form { forms[0].From = -1; return forms }),
		"a loose form":  with(func(forms []impl.Form) []impl.Form { forms[len(forms)-1].Kids = nil; return forms }),
		"too deep":      deepBlocks(101),
	}
}

// deepBlocks: blocks in one another, the last form at the depth 0.
func deepBlocks(depth int) impl.Sheet {
	s := impl.Sheet{Forms: []impl.Form{{Kind: impl.SBlock}}}
	for n := range depth {
		s.Forms = append(s.Forms, impl.Form{Kind: impl.SBlock, Kids: []int{n}})
	}
	return s
}

func TestTidiedWithoutSheet(t *testing.T) {
	for _, text := range []string{"", " \n;", "-- r", "x", "@", "f(", "}", "x = \"", "throw " + strings.Repeat("n", 41), filled("f()", impl.MaxText+1), strings.Repeat("{", 101) + strings.Repeat("}", 101)} {
		checkTidied(t, text, "")
	}
	checkTidied(t, filled("f()", impl.MaxText), "f()\n")
	quoted := `throw "` + strings.Repeat("\xff", 4000) + "\";"
	if impl.Parse(strings.Repeat(quoted, 5)).Code != 0 || impl.Tidied(strings.Repeat(quoted, 5)) != "" || impl.Tidied(strings.Repeat(quoted, 4)) == "" {
		t.Error("a text that is too long when printed")
	}
}

func TestPrintDeep(t *testing.T) {
	s := deepBlocks(100)
	if got, want := impl.Print(s), plainPrinted(s); got != want || !strings.Contains(got, strings.Repeat("\t", 99)+"{}\n") {
		t.Errorf("%q", shortly(got))
	}
}
