package tests

import (
	"fmt"
	"slices"
	"strings"
	"testing"

	"loop.example/heddle/impl"
)

// plainOutline: the EFns by where the forms below them begin, an outer one ahead of an inner one.
func plainOutline(s impl.Sheet) []impl.Entry {
	begins, parents := make([]int, len(s.Forms)), make([]int, len(s.Forms))
	for n, f := range s.Forms {
		begins[n] = n
		if len(f.Kids) > 0 {
			begins[n] = begins[f.Kids[0]]
		}
		for _, kid := range f.Kids {
			parents[kid] = n
		}
	}
	var found []impl.Entry
	for n, f := range s.Forms {
		if f.Kind != impl.EFn {
			continue
		}
		e := impl.Entry{Line: f.Line, Form: n}
		if parent := s.Forms[parents[n]]; parent.Kind == impl.SFn {
			e.Name = parent.Names[0]
		}
		for up := n; up != len(s.Forms)-1; up = parents[up] {
			if s.Forms[parents[up]].Kind == impl.EFn {
				e.Depth++
			}
		}
		found = append(found, e)
	}
	slices.SortFunc(found, func(a, b impl.Entry) int {
		if begins[a.Form] != begins[b.Form] {
			return begins[a.Form] - begins[b.Form]
		}
		return b.Form - a.Form
	})
	return found
}

func plainDump(s impl.Sheet) string {
	var out strings.Builder
	for _, f := range s.Forms {
		names := append([]string{fmt.Sprint(len(f.Names))}, f.Names...)
		kids := strings.Trim(fmt.Sprint(append([]int{len(f.Kids)}, f.Kids...)), "[]")
		fmt.Fprintf(&out, "%d %d %d %d %d %d %s %s %s\n", f.Kind, f.From, f.To, f.Line, f.Op, f.Num, impl.Quote(f.Text), strings.Join(names, " "), kids)
	}
	return out.String()
}

func TestLooksByChance(t *testing.T) {
	for _, s := range append(grownSheets(33, 800), someSheets(300)...) {
		before := copiedSheet(s)
		if got, want := impl.Outline(s), plainOutline(s); !slices.Equal(got, want) {
			t.Fatalf("%v, want %v", got, want)
		}
		if got, want := impl.Dump(s), plainDump(s); got != want {
			t.Fatalf("%s\nwant\n%s", got, want)
		}
		if !sameSheet(s, before) {
			t.Fatal("the sheet is written into")
		}
	}
}

func TestOutlineEntries(t *testing.T) {
	for text, want := range map[string][]impl.Entry{
		"":              nil,
		"f()":           nil,
		"fn f() {}":     {{Name: "f", Line: 1, Form: 1}},
		"\nx = fn() {}": {{Line: 2, Form: 2}},
		"fn f\n() {}":   {{Name: "f", Line: 2, Form: 1}},
		"fn f() { fn g() {} }\nfn h() {}": {
			{Name: "f", Line: 1, Form: 4}, {Name: "g", Line: 1, Depth: 1, Form: 1}, {Name: "h", Line: 2, Form: 7},
		},
		"fn f() {\nreturn fn() {\nfn g() {} } }": {
			{Name: "f", Line: 1, Form: 7}, {Line: 2, Depth: 1, Form: 4}, {Name: "g", Line: 3, Depth: 2, Form: 1},
		},
		"x = {fn() {}, [fn() {}] = fn() {}} + fn() {}": {{Line: 1, Form: 2}, {Line: 1, Form: 5}, {Line: 1, Form: 7}, {Line: 1, Form: 11}},
		"(fn() { defer (fn() {})() })(fn() {})":        {{Line: 1, Form: 5}, {Line: 1, Depth: 1, Form: 1}, {Line: 1, Form: 7}},
		"if fn() {} { fn f() {} } else { fn g() {} }":  {{Line: 1, Form: 1}, {Name: "f", Line: 1, Form: 3}, {Name: "g", Line: 1, Form: 7}},
	} {
		s := impl.Parse(text).Sheet
		if got := impl.Outline(s); !slices.Equal(got, want) {
			t.Errorf("%q: %v, want %v", text, got, want)
		}
	}
}

func TestDumpLines(t *testing.T) {
	s := impl.Sheet{Forms: []impl.Form{
		{Kind: impl.EStr, From: 3, To: 4, Line: 5, Text: "a \"\\\n\t\x00\xff"},
		{Kind: impl.EInt, From: 0, To: 9000000000, Line: 0, Num: leastInt},
		{Kind: impl.EUnary, Op: impl.OpLen, Kids: []int{1}},
		{Kind: impl.SLet, Names: []string{"a", "bc"}, Kids: []int{0, 2}},
		{Kind: impl.SBlock, Kids: []int{3}},
	}}
	want := `25 3 4 5 0 0 "a \"\\\n\t\x00\xff" 0 0
23 0 9000000000 0 0 -9223372036854775808 "" 0 0
30 0 0 0 22 0 "" 0 1 1
2 0 0 0 0 0 "" 2 a bc 2 0 2
1 0 0 0 0 0 "" 0 1 3
`
	if got := impl.Dump(s); got != want {
		t.Errorf("%s\nwant\n%s", got, want)
	}
	if got, want := impl.Dump(impl.Sheet{Forms: []impl.Form{{Kind: impl.SBlock}}}), "1 0 0 0 0 0 \"\" 0 0\n"; got != want {
		t.Errorf("%q", got)
	}
	long := stringSheet("\xff", slices.Repeat([]int{4000}, 200)...)
	if got := impl.Dump(long); got != plainDump(long) {
		t.Errorf("a long dump has %d bytes", len(got))
	}
}
