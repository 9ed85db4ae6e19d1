package tests

import (
	"fmt"
	"slices"
	"strings"
	"testing"

	"loop.example/heddle/impl"
)

// linkStages: the Codes of Parse, Bind and Compile on the way from a linked text to its code.
func linkStages(text string) [3]int {
	parsed := impl.Parse(text)
	bound := impl.Bind(impl.Grow(parsed.Sheet))
	return [3]int{parsed.Code, bound.Code, impl.Compile(bound.Unit).Code}
}

// checkLinks: a bundle that is linked: its unit and its code are those of its text.
func checkLinks(t *testing.T, told string, b impl.Bundle, main string) impl.Linked {
	t.Helper()
	text := impl.LinkText(b, main)
	if got := linkStages(text); got != [3]int{} {
		t.Errorf("%s: codes %v", told, got)
	}
	unit := impl.Bind(impl.Grow(impl.Parse(text).Sheet)).Unit
	checkLinked(t, told, b, main, impl.Linked{Unit: unit, Made: impl.Compile(unit).Made})
	got := impl.Link(b, main)
	if impl.CheckUnit(got.Unit) != (impl.Fault{}) || impl.CheckCode(got.Made) != (impl.CodeFault{}) {
		t.Errorf("%s: not valid", told)
	}
	return got
}

// checkUnlinked: a bundle that is well made and has a main, and what Link answers instead of a unit.
func checkUnlinked(t *testing.T, told string, b impl.Bundle, main string, want impl.Linked) {
	t.Helper()
	if fault := impl.BundleOk(b); fault.Code != 0 {
		t.Errorf("%s: %v", told, fault)
	}
	checkLinked(t, told, b, main, want)
	checkLinked(t, told+", plainly", b, main, plainLink(b, main))
}

// P9: linked bundles: the house's fns, then those of the sources, at their lines.
func TestLinkUnits(t *testing.T) {
	b := bundleOf([]string{"", "lib"}, "a", "let b = import(\"b\")\nprint(b(1))", "lib/b", "\nfn twice(x) {\n\treturn x * 2\n}\nreturn twice", "c", "")
	l := checkLinks(t, "three sources", b, "a")
	var got []string
	for _, fn := range l.Unit.Fns {
		got = append(got, fmt.Sprint(fn.Name, " ", fn.Line, " ", fn.Params, " ", fn.Rest))
	}
	want := []string{"main 0 0 true", " 1 1 false", "import 4 1 false", "now 22 0 false", "after 23 2 false", "on 32 2 false", "first 33 1 false", "read 42 0 false", "guard 43 2 false", "tick 50 0 false", " 58 0 false",
		" 70 0 true", " 74 0 true", "twice 76 1 false", " 81 0 true"}
	if !slices.Equal(got, want) {
		t.Errorf("fns %q, want %q", got, want)
	}
	if len(l.Made.Protos) != len(want) {
		t.Errorf("%d protos", len(l.Made.Protos))
	}
	for _, main := range []string{"a", "lib/b", "b", "c", "./c"} {
		checkLinks(t, main, b, main)
	}
	checkLinks(t, "an empty source", bundleOf([]string{""}, "a", ""), "a")
	checkLinks(t, "most sources", bundleOfMany(20), "./s19")
	checkLinks(t, "imports of all", bundleOf([]string{""}, "a", `print(import("b"), import("a"), import("z"), import(""))`, "b", `return import("a")`), "b")
}

// P9: each of Bind's codes 2 to 6 at lines of sources, wherever they stand.
func TestLinkBindFaults(t *testing.T) {
	for text, c := range map[string]struct{ code, line int }{
		"q()": {4, 1}, "\n\nq()\n": {4, 3}, "print(\n\n\tq)": {4, 3}, "let x = x": {4, 1}, "f()\nlet f = 1": {4, 1}, "let g = fn() {\n\treturn h\n}": {4, 2}, "print(import, now, after, on, read, house)\nclock()": {4, 2}, "line()": {4, 1}, "state = 1": {4, 1}, "loop()": {4, 1}, "guard()": {4, 1}, "main()": {4, 1},
		"print = 1": {5, 1}, "\nlet x\nx, type = 1": {5, 3}, "const k = 1\nk = 2": {5, 2}, "const k = 1\nfn f() {\n\n\tk = 2\n}": {5, 4}, "let y\ny,\ntext = 1": {5, 3},
		"break": {6, 1}, "\nnext\n": {6, 2}, "if true {\n\tbreak\n}": {6, 2}, "while true {\n\tlet f = fn() {\n\t\tnext\n\t}\n}": {6, 3}, "{{{\nbreak}}}": {6, 2},
		"let f = fn() {return ...}": {7, 1}, "fn f(a) {\n\n\treturn a, ...\n}": {7, 3}, "fn f(...) {\n\treturn fn() {\n\treturn (...)\n\t}\n}": {7, 3},
		"const k = now()": {8, 1}, "\nconst k = read": {8, 2}, "const k =\n\tfn() {}": {8, 1}, "const k = {}": {8, 1}, "const k = 1 + nil": {8, 1}, "const k = 0 / 0": {8, 1}, "let x\n\nconst k =\n x": {8, 3}, "const k = import(\"a\")": {8, 1},
	} {
		for at := range 3 {
			b := bundleOf([]string{""}, "a", "\n--\n", "b", "print(1)\n", "c", "return ...\n\n")
			b.Sources[at].Text = text
			for _, main := range []string{"a", "c"} {
				checkUnlinked(t, fmt.Sprintf("%q in source %d", text, at), b, main, impl.Linked{Code: c.code, Source: at, Line: c.line})
			}
		}
	}
}

// P9: of several faults the one that stands first, whichever it is; what is not known ahead of what needs it.
func TestLinkFirstFault(t *testing.T) {
	faults := []string{"q()", "print = 1", "break", "let f = fn() {return ...}", "const k = now()"}
	for i, one := range faults {
		for k, two := range faults {
			want := impl.Linked{Code: 4 + i, Line: 2}
			checkUnlinked(t, one+two, bundleOf([]string{""}, "a", "\n"+one+"\n\n"+two), "a", want)
			checkUnlinked(t, one+" | "+two, bundleOf([]string{""}, "a", "", "b", "\n"+one, "c", two), "c", impl.Linked{Code: 4 + i, Source: 1, Line: 2})
			checkUnlinked(t, two+" | "+one, bundleOf([]string{""}, "a", "", "b", two, "c", "\n"+one), "c", impl.Linked{Code: 4 + k, Source: 1, Line: 1})
		}
	}
	checkUnlinked(t, "a const of what is nothing", bundleOf([]string{""}, "a", "const k =\n\n q"), "a", impl.Linked{Code: 4, Line: 3})
	checkUnlinked(t, "a break in a fn", bundleOf([]string{""}, "a", "x = fn() {\n break\n}"), "a", impl.Linked{Code: 4, Line: 1})
	checkUnlinked(t, "bound ahead of what is too large", bundleOf([]string{""}, "a", "for a, b, c, d, e in print {}\nq()"), "a", impl.Linked{Code: 4, Line: 2})
}

// P9: no source changes what a name is in the house's own lines, nor what is known there: no fault is ever placed at one of them.
func TestLinkHouseNames(t *testing.T) {
	names := []string{"import", "now", "after", "on", "read", "house", "print", "type", "line", "clock", "first", "tick"}
	for _, name := range names {
		for _, text := range []string{"let " + name + " = 1", "const " + name + " = 1", "fn " + name + "() {}", "for " + name + " = 1, 2 {}", "return fn(" + name + ") {return " + name + "}"} {
			for at := range 2 {
				b := bundleOf([]string{""}, "a", "print(now(), read(), import(\"b\"))", "b", "on(\"x\", print)\nafter(1, print)\nhouse.x = type(house)")
				b.Sources[at].Text = text
				checkLinks(t, text, b, "a")
			}
		}
	}
	for _, name := range []string{"import", "now", "after", "on", "read", "house"} {
		checkLinks(t, name, bundleOf([]string{""}, "a", name+" = nil"), "a")
	}
	// What would end a source's own fn, and open another, is not well-formed alone.
	for _, text := range []string{"}\nbreak\n{", "}\nq()\nhouse.mods[\"b\"] = fn(...) {", "} q() {"} {
		checkLinked(t, text, bundleOf([]string{""}, "a", "", "b", text), "a", impl.Linked{Code: 1, Source: 1})
	}
}

// checkTooLargeToLink: a bundle that just fits, and one that does not; stage is which of Parse, Bind and Compile refuses that, and with
// which code.
func checkTooLargeToLink(t *testing.T, told string, most, over impl.Bundle, stage, code int) {
	t.Helper()
	checkLinks(t, told, most, "./a")
	if got := linkStages(impl.LinkText(over, "./a")); got[stage] != code || slices.ContainsFunc(got[:stage], func(code int) bool { return code != 0 }) {
		t.Errorf("%s: codes %v", told, got)
	}
	checkUnlinked(t, told, over, "./a", impl.Linked{Code: 3})
	checkLinked(t, told, over, "./z", impl.Linked{Code: 2})
}

// constBlocks: consts in blocks, of so many forms in all; they become no nodes.
func constBlocks(forms int) string {
	text := ""
	if forms%2 == 1 {
		text, forms = "{}\n", forms-1
	}
	for ; forms > 1; forms -= 200 {
		// A pair of blocks has an even number of forms.
		text += "{{" + strings.Repeat("const k = 1;", min(forms-2, 198)/2) + "}}\n"
	}
	return text
}

// P9: linked texts that Parse refuses, though each source is accepted: too deep, or too many forms.
func TestLinkParseTooLarge(t *testing.T) {
	deep := func(blocks int) impl.Bundle {
		return bundleOf(nil, "a", "", "b", strings.Repeat("{", blocks)+strings.Repeat("}", blocks))
	}
	checkTooLargeToLink(t, "97 and 98 blocks", deep(97), deep(98), 0, 2)
	checkTooLargeToLink(t, "96 and 100 blocks", deep(96), deep(100), 0, 2)
	checkLinked(t, "101 blocks", deep(101), "./a", impl.Linked{Code: 1, Source: 1})
	own := len(impl.Parse(impl.LinkText(bundleOf(nil, "a", "", "b", ""), "./a")).Sheet.Forms)
	large := func(total int) impl.Bundle {
		first := (total - own) / 2
		return bundleOf(nil, "a", constBlocks(first), "b", constBlocks(total-own-first))
	}
	for _, total := range []int{2999, 3000} {
		if got := len(impl.Parse(impl.LinkText(large(total), "./a")).Sheet.Forms); got != total {
			t.Errorf("%d forms, want %d", got, total)
		}
	}
	checkTooLargeToLink(t, "3000 and 3001 forms", large(3000), large(3001), 0, 2)
	checkTooLargeToLink(t, "2999 and 3002 forms", large(2999), large(3002), 0, 2)
}

// nodesOf: how many nodes a unit has.
func nodesOf(u impl.Unit) int {
	count := 0
	for _, fn := range u.Fns {
		count += len(fn.Nodes)
	}
	return count
}

// P9: linked texts that Bind refuses with Code 7.
func TestLinkBindTooLarge(t *testing.T) {
	one := func(text string) impl.Bundle { return bundleOf(nil, "b", "print(1)\n", "a", text) }
	checkTooLargeToLink(t, "names of a for", one("for a, b, c, d in print {}"), one("for a, b, c, d, e in print {}"), 1, 7)
	lets := func(count int) string { return strings.Repeat("let v\n", count) }
	checkTooLargeToLink(t, "variables", one(lets(100)+"{"+lets(100)+"}"), one(lets(100)+"{"+lets(101)+"}"), 1, 7)
	both := func(count int) impl.Bundle { return bundleOf(nil, "a", lets(150), "b", lets(count)) }
	checkLinks(t, "variables of two sources", both(200), "./a")
	own := nodesOf(impl.Link(bundleOf(nil, "a", "", "b", ""), "./a").Unit)
	// Blocks become as many nodes, but the house's own text has more nodes than forms.
	blocks := func(count int) string {
		text := ""
		for ; count > 0; count -= 200 {
			text += "{" + strings.Repeat("{};", min(count, 200)-1) + "}\n"
		}
		return text
	}
	large := func(total int) impl.Bundle {
		first := (total - own) / 2
		return bundleOf(nil, "a", blocks(first), "b", blocks(total-own-first))
	}
	checkTooLargeToLink(t, "3000 and 3001 nodes", large(3000), large(3001), 1, 7)
	if got := nodesOf(impl.Link(large(3000), "./a").Unit); got != 3000 {
		t.Errorf("%d nodes, want 3000", got)
	}
}

// P9: units that Compile refuses: too many fns, consts, registers.
func TestLinkCompileTooLarge(t *testing.T) {
	fns := func(count int) impl.Bundle {
		return bundleOf(nil, "a", strings.Repeat("print(fn() {})\n", 90), "b", strings.Repeat("print(fn() {})\n", count-90))
	}
	own := len(impl.Link(bundleOf(nil, "a", "", "b", ""), "./a").Unit.Fns)
	checkTooLargeToLink(t, "fns", fns(200-own), fns(201-own), 2, 2)
	consts := func(count int) impl.Bundle {
		var text strings.Builder
		for n := range count {
			if n%100 == 0 {
				text.WriteString("\n{return 0")
			}
			fmt.Fprintf(&text, ", %d", n)
			if n%100 == 99 || n == count-1 {
				text.WriteString("}")
			}
		}
		return bundleOf(nil, "a", "print(1)", "b", text.String())
	}
	checkTooLargeToLink(t, "consts", consts(500), consts(501), 2, 2)
	regs := func(vars int) impl.Bundle {
		return bundleOf(nil, "a", strings.Repeat("let v\n", vars)+"return "+strings.Repeat("1 .. (", 60)+"1"+strings.Repeat(")", 60))
	}
	if linkStages(impl.LinkText(regs(190), "./a")) != [3]int{0, 0, 2} {
		t.Error("not too many registers")
	}
	checkLinks(t, "registers", regs(100), "./a")
	checkUnlinked(t, "registers", regs(190), "./a", impl.Linked{Code: 3})
}

// P9: what is linked is run by the house's own text: modules once, rings and failures told, time, messages and input.
func TestLinkRuns(t *testing.T) {
	b := bundleOf([]string{"", "lib"},
		"a", lined(`print("a", now(), ...)`, `let b = import("b")`, `print(b.x, import("./lib/b") == b)`, `try {import("zz")} catch e {print(e.code, e.name == "")}`,
			`after(2, fn() {print("two", now())})`, `after(1, fn() {print("one", now())})`, `after(2, fn() {print("two again", now())})`,
			`on("x", fn(text) {print("heard", text, read(), read())})`),
		"lib/b", lined(`print("b")`, `try {import("a")} catch e {print(e.code, e.name)}`, `return {.x = 7}`),
		"bad", `throw {.code = "mine"}`)
	l := checkLinks(t, "a session", b, "a")
	in := plenty()
	in.Lines = []string{"begin", "input", "first", "tick", "begin", "say", "x", "hello", "say", "y", "who", "tick", "tick"}
	want := []string{"a 0 a", "b", "ring a", "7 true", "absent true", "one 1", "heard hello first nil", "nobody hears y", "two 2", "two again 2"}
	checkShown(t, "a session", saysOf(ranUnit(t, "a session", l.Unit, in)), want)
	bad := checkLinks(t, "a main that throws", b, "bad")
	in.Lines = []string{"begin", "begin"}
	got := saysOf(ranUnit(t, "a main that throws", bad.Unit, in))
	if len(got) != 2 || !strings.HasPrefix(got[0], "error mine ") || !strings.HasPrefix(got[1], "error failed ") {
		t.Errorf("%q", got)
	}
}

// P9, P17: what is linked is new memory, no two lists share any; the same bundle has the same answer, and stays as it was.
func TestLinkMemory(t *testing.T) {
	b := bundleOf(append(make([]string, 0, 8), "", "lib"), "a", "let x = import(\"b\")\nprint(x, fn() {return x})", "lib/b", "fn f(y) {return y}\nreturn f")
	before := copiedBundle(b)
	one, two := impl.Link(b, "a"), impl.Link(b, "a")
	unit, code := unitTold(one.Unit), codeTold(one.Made)
	if one.Code != 0 || unitTold(two.Unit) != unit || codeTold(two.Made) != code {
		t.Errorf("two answers")
	}
	if sharedTexts(unitTexts(one.Unit), codeTexts(one.Made)) || sharedTexts(unitTexts(one.Unit), []string{b.Sources[0].Name, b.Sources[1].Name, b.Sources[0].Text, b.Sources[1].Text}) {
		t.Error("a text is not new")
	}
	if sharedInts(impl.Link(b, "a").Unit) {
		t.Error("two lists of a unit share memory")
	}
	overwriteUnit(one.Unit)
	if codeTold(one.Made) != code || unitTold(two.Unit) != unit {
		t.Error("the unit shares memory")
	}
	overwriteCode(one.Made)
	if codeTold(two.Made) != code || unitTold(impl.Link(b, "a").Unit) != unit || codeTold(impl.Link(b, "a").Made) != code {
		t.Error("the code shares memory")
	}
	for range 3 {
		if impl.LinkText(b, "a") != plainLinkText(before, "a") || impl.BundleOk(b) != (impl.BundleFault{}) || impl.PlaceOf(b, 72) != (impl.Place{Line: 2}) {
			t.Error("another answer")
		}
	}
	if !sameBundle(b, before) || !slices.Equal(b.Roots[:8], []string{"", "lib", "", "", "", "", "", ""}) {
		t.Error("the bundle has changed")
	}
	small := bundleOf([]string{""}, "a", "")
	if sharesText(impl.LinkText(small, "a"), impl.LinkText(small, "a")) {
		t.Error("two linked texts share memory")
	}
}
