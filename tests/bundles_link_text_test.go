package tests

import (
	"fmt"
	"math/rand"
	"slices"
	"strings"
	"testing"

	"loop.example/heddle/impl"
)

// checkLinkText: the whole text of a bundle: the house's own, and this behind it.
func checkLinkText(t *testing.T, told string, b impl.Bundle, main string, lines ...string) {
	t.Helper()
	want := houseOwn() + strings.Join(lines, "\n") + "\n"
	got := impl.LinkText(b, main)
	if own, ok := strings.CutPrefix(got, houseOwn()); !ok || got != want {
		t.Errorf("%s: %q, want %q", told, own, want[len(houseOwn()):])
	}
	wantTold(t, told+", plainly", plainLinkText(b, main), want)
}

// checkNoLinkText: main leads to nothing in a bundle that is well made.
func checkNoLinkText(t *testing.T, b impl.Bundle, main string) {
	t.Helper()
	if got := impl.LinkText(b, main); got != "" || impl.BundleOk(b).Code != 0 {
		t.Errorf("main %q: %s", main, shortly(got))
	}
	checkLinked(t, fmt.Sprintf("main %q", main), b, main, impl.Linked{Code: 2})
}

// P9: the house's own text: 69 lines, the line at which it waits; it parses, binds and compiles.
func TestHouseOwnText(t *testing.T) {
	text := impl.LinkText(bundleOf([]string{""}, "a", ""), "a")
	lines := strings.SplitAfter(text, "\n")
	if len(lines) != 69+5+1 || lines[0] != "let import, now, after, on, read, house = (fn(line) {\n" || lines[59] != "\t\t\tlet k = line()\n" || lines[68] != "})(read)\n" {
		t.Errorf("%q", lines)
	}
	for i, line := range strings.SplitAfter(houseOwn(), "\n")[:69] {
		wantTold(t, fmt.Sprint("line ", i+1), lines[i], line)
	}
	if strings.Contains(text, "    ") || strings.Count(houseOwn(), "\n") != 69 || len(houseOwn()) != 1725 {
		t.Error("not with tabs")
	}
}

// P9: whole linked texts of one source and of several.
func TestLinkTextWhole(t *testing.T) {
	checkLinkText(t, "one", bundleOf([]string{""}, "a", "print(1)"), "a",
		`house.mods["a"] = fn(...) {`, "print(1)", "}", `house.main = "a"`, "house.loop()")
	checkLinkText(t, "empty", bundleOf([]string{""}, "a", ""), "a",
		`house.mods["a"] = fn(...) {`, "", "}", `house.main = "a"`, "house.loop()")
	checkLinkText(t, "a newline at the end", bundleOf([]string{""}, "a", "print(1)\n"), "a",
		`house.mods["a"] = fn(...) {`, "print(1)", "", "}", `house.main = "a"`, "house.loop()")
	checkLinkText(t, "only newlines", bundleOf([]string{""}, "a", "\n\n"), "a",
		`house.mods["a"] = fn(...) {`, "", "", "", "}", `house.main = "a"`, "house.loop()")
	checkLinkText(t, "a remark at the end", bundleOf([]string{""}, "a", "print(1) -- }"), "a",
		`house.mods["a"] = fn(...) {`, "print(1) -- }", "}", `house.main = "a"`, "house.loop()")
	checkLinkText(t, "blanks and strange bytes", bundleOf([]string{""}, "a", "\t print ( \"\xff\" )\r\n--\x00\xfe"), "a",
		`house.mods["a"] = fn(...) {`, "\t print ( \"\xff\" )\r", "--\x00\xfe", "}", `house.main = "a"`, "house.loop()")
	several := bundleOf([]string{"", "lib"},
		"x/a", "let b = import(\"./b\")\nlet c = import(\"c\")\nprint(b, c, import(\"zz\"), import(\"../lib/c\"))\n",
		"x/b", "return import(\"a\"), import(\"x/a\"), import(\"../x/./a\")",
		"lib/c", "")
	checkLinkText(t, "several", several, "./x/a",
		`house.mods["x/a"] = fn(...) {`, `let b = import("x/b")`, `let c = import("lib/c")`, `print(b, c, import(""), import("lib/c"))`, "", "}",
		`house.mods["x/b"] = fn(...) {`, `return import(""), import("x/a"), import("x/a")`, "}",
		`house.mods["lib/c"] = fn(...) {`, "", "}",
		`house.main = "x/a"`, "house.loop()")
	checkLinkText(t, "the last one is main", several, "c",
		`house.mods["x/a"] = fn(...) {`, `let b = import("x/b")`, `let c = import("lib/c")`, `print(b, c, import(""), import("lib/c"))`, "", "}",
		`house.mods["x/b"] = fn(...) {`, `return import(""), import("x/a"), import("x/a")`, "}",
		`house.mods["lib/c"] = fn(...) {`, "", "}",
		`house.main = "lib/c"`, "house.loop()")
}

// P9: what a main leads to, as a name in a source main does; and mains that lead to nothing.
func TestLinkTextMain(t *testing.T) {
	b := bundleOf([]string{"lib", "", "x"}, "a", "", "x/a", "", "lib/b", "", "b", "", "x/c", "", "x/y/d", "")
	for main, begin := range map[string]string{
		"a": "a", "./a": "a", "x/a": "x/a", "./x/a": "x/a", "b": "lib/b", "./b": "b", "c": "x/c", "./x/c": "x/c", "y/d": "x/y/d", "y/../a": "a", "x/../b": "lib/b", "./x/../b": "b", "lib/b": "lib/b", "././x/y/./d": "x/y/d",
	} {
		text := impl.LinkText(b, main)
		if !strings.HasSuffix(text, "}\nhouse.main = \""+begin+"\"\nhouse.loop()\n") {
			t.Errorf("%q: %q", main, text)
		}
		wantTold(t, main, text, plainLinkText(b, main))
	}
	for _, main := range []string{"", ".", "..", "/", "z", "A", "../a", "./c", "d", "a/", "/a", "a/..", "main", "./main", "x", "a\n", strings.Repeat("a", 60), strings.Repeat("a", 61), "lib/a", " a", `"a"`} {
		checkNoLinkText(t, b, main)
	}
	// Without an empty root only what begins with a dot is found as it stands.
	for _, roots := range [][]string{nil, {"lib"}} {
		checkNoLinkText(t, bundleOf(roots, "a", ""), "a")
		if text := impl.LinkText(bundleOf(roots, "a", ""), "./a"); !strings.HasSuffix(text, "house.main = \"a\"\nhouse.loop()\n") {
			t.Errorf("%q", text)
		}
	}
	// A source of this very name stands nowhere else than any other main.
	checkNoLinkText(t, bundleOf([]string{""}, "main/main", "", "main/a", ""), "./a")
	if text := impl.LinkText(bundleOf([]string{""}, "main", "", "main/a", ""), "main"); !strings.HasSuffix(text, "house.main = \"main\"\nhouse.loop()\n") {
		t.Errorf("%q", text)
	}
}

// importTexts: texts of a source x/m, and what they become beside a, b, x/n, x/b and lib/c, with the roots lib and the empty one.
func importTexts() map[string]string {
	same := func(texts ...string) map[string]string {
		all := map[string]string{}
		for _, text := range texts {
			all[text] = text
		}
		return all
	}
	all := same(
		// Strings that stand elsewhere than just behind the parenthesis.
		`import(("./b"))`, `import({"./b"})`, `import(x, "./b")`, `import(-"./b")`, `import(x .. "./b")`, `import()`, `import()("./b")`, `import(import)("./b")`, `import["./b"]()`, `import["./b"]("./b")`, `import(not "./b")`, `import(nil, "./b")`,
		// Parentheses behind something else.
		`imports("./b")`, `import1("./b")`, `_import("./b")`, `Import("./b")`, `IMPORT("./b")`, `f("./b")`, `import.f("./b")`, `(import)("./b")`, `import[1]("./b")`, `f(import, ("./b"))`, `x = import == ("./b")`, `x = import .. ("./b")`, `x = {import, ("./b")}`, `imp.ort("./b")`,
		// Remarks and strings.
		`-- import("./b")`, `f() --import("./b")`, `f("import(\"./b\")")`, `f("import", "./b")`, `("import")("./b")`, `f("import(", "./b", ")")`, `f["import"]("./b")`,
		// A newline is a token.
		"import\n(\"./b\")", "import(\n\"./b\")", "import\n(\n\"./b\"\n)", "import -- r\n(\"./b\")", "import( -- r\n\"./b\")", "import(\r\n\"./b\")", "import(\n\n\n\"./b\")",
		"x = import\n(\"./b\").f()",
		// Nothing to import.
		"", "\n", "x = import", "fn import(name) {return name}", "let import = 1", "x.import = \"./b\"", "x = {.import = (\"./b\")}", "for import in f {f(\"./b\")}", "try {f()} catch import {f()}",
		`import("x/n")`, `import("")`, `import("lib/c")`,
	)
	for text, want := range map[string]string{
		`import("./b")`: `import("x/b")`, `import("../b")`: `import("b")`, `import("b")`: `import("b")`, `import("c")`: `import("lib/c")`, `import("x/b")`: `import("x/b")`, `import("./../x/./b")`: `import("x/b")`,
		`import("z")`: `import("")`, `import("../z")`: `import("")`, `import("../../b")`: `import("")`, `import("B")`: `import("")`, `import("b/")`: `import("")`, `import(" b")`: `import("")`, `import("..")`: `import("")`, `import(".")`: `import("")`, `import("./..")`: `import("")`, `import("lib")`: `import("")`,
		`import("` + strings.Repeat("a", 61) + `")`: `import("")`, `import("` + strings.Repeat("x", 4000) + `")`: `import("")`, `import("import(\"./b\")")`: `import("")`,
		`import("a/../b")`: `import("b")`, `import("lib/../b")`: `import("b")`, `import("n")`: `import("")`, `import("./n")`: `import("x/n")`, `import("./m")`: `import("x/m")`, `import("a")`: `import("a")`,
		// Blanks between.
		`import ("./b")`: `import ("x/b")`, `import( "./b" )`: `import( "x/b" )`, "import\t(\t\"./b\"\t)": "import\t(\t\"x/b\"\t)", "import \r (\r\"./b\"\n)": "import \r (\r\"x/b\"\n)", "import(\"./b\"\n)": "import(\"x/b\"\n)", "import(\"./b\" -- \"./b\"\n)": "import(\"x/b\" -- \"./b\"\n)",
		// More behind it.
		`import("./b", "./n")`: `import("x/b", "./n")`, `import("./b" .. "./n")`: `import("x/b" .. "./n")`, `import("./b")("./n")`: `import("x/b")("./n")`, `import("./b").import("./n")`: `import("x/b").import("x/n")`, `import("./b", import("./n"))`: `import("x/b", import("x/n"))`,
		`import(import("./b"))`: `import(import("x/b"))`, `f("./b", import("./b"), "./b")`: `f("./b", import("x/b"), "./b")`,
		// As tokens: whatever the name stands for there.
		`x.import("./b")`: `x.import("x/b")`, `import.import("./b")`: `import.import("x/b")`, "let import = f\nimport(\"./b\")": "let import = f\nimport(\"x/b\")", "fn f(import) {return import(\"./b\")}": "fn f(import) {return import(\"x/b\")}", `defer import("./b")`: `defer import("x/b")`, `x = {.import = import("./b")}`: `x = {.import = import("x/b")}`,
		// Escapes.
		`import("\x2e/b")`: `import("x/b")`, `import("\x2e\x2f\x62")`: `import("x/b")`, `import("\"b\"")`: `import("")`, `import("b\n")`: `import("")`, `import("\\b")`: `import("")`, `import("\xff")`: `import("")`, `import("b\x00")`: `import("")`,
		// Several in one text.
		"import(\"./b\")\n\n  import(\"z\") -- import(\"z\")\nimport(\"./n\")\n": "import(\"x/b\")\n\n  import(\"\") -- import(\"z\")\nimport(\"x/n\")\n",
		"import(\"./b\");import(\"./b\");import(\"c\")":                          "import(\"x/b\");import(\"x/b\");import(\"lib/c\")",
	} {
		all[text] = want
	}
	return all
}

// P9: strings behind import, and what they lead to; nothing else of a text changes.
func TestLinkTextImports(t *testing.T) {
	for text, want := range importTexts() {
		b := bundleOf([]string{"lib", ""}, "a", "", "x/m", text, "b", "", "x/n", "", "x/b", "", "lib/c", "")
		if fault := impl.BundleOk(b); fault.Code != 0 {
			t.Errorf("%q: %v", text, fault)
			continue
		}
		checkLinkText(t, shortly(text), b, "./a", `house.mods["a"] = fn(...) {`, "", "}", `house.mods["x/m"] = fn(...) {`, want, "}",
			`house.mods["b"] = fn(...) {`, "", "}", `house.mods["x/n"] = fn(...) {`, "", "}", `house.mods["x/b"] = fn(...) {`, "", "}",
			`house.mods["lib/c"] = fn(...) {`, "", "}", `house.main = "a"`, "house.loop()")
		checkBundle(t, shortly(text), b, "a", "x/m", "./x/m", "c", "z")
	}
}

// P9: the same name in sources that stand elsewhere, under other roots and in another order of roots.
func TestLinkTextLeads(t *testing.T) {
	text := `print(import("a"), import("./a"), import("../a"))`
	led := func(first, second, third string) string {
		return `print(import("` + first + `"), import("` + second + `"), import("` + third + `"))`
	}
	for told, c := range map[string]struct {
		roots []string
		want  [3]string // in the sources m, x/m and x/y/m
	}{
		"no roots":         {nil, [3]string{led("", "a", ""), led("", "x/a", "a"), led("", "x/y/a", "x/a")}},
		"the empty root":   {[]string{""}, [3]string{led("a", "a", ""), led("a", "x/a", "a"), led("a", "x/y/a", "x/a")}},
		"two roots":        {[]string{"z", "x", ""}, [3]string{led("x/a", "a", ""), led("x/a", "x/a", "a"), led("x/a", "x/y/a", "x/a")}},
		"the other order":  {[]string{"", "x"}, [3]string{led("a", "a", ""), led("a", "x/a", "a"), led("a", "x/y/a", "x/a")}},
		"a deep root":      {[]string{"x/y/z", "x/y"}, [3]string{led("x/y/a", "a", ""), led("x/y/a", "x/a", "a"), led("x/y/a", "x/y/a", "x/a")}},
		"a root of no use": {[]string{"z"}, [3]string{led("", "a", ""), led("", "x/a", "a"), led("", "x/y/a", "x/a")}},
	} {
		b := bundleOf(c.roots, "m", text, "x/m", text, "x/y/m", text, "a", "", "x/a", "", "x/y/a", "")
		checkLinkText(t, told, b, "./m", `house.mods["m"] = fn(...) {`, c.want[0], "}", `house.mods["x/m"] = fn(...) {`, c.want[1], "}", `house.mods["x/y/m"] = fn(...) {`, c.want[2], "}",
			`house.mods["a"] = fn(...) {`, "", "}", `house.mods["x/a"] = fn(...) {`, "", "}", `house.mods["x/y/a"] = fn(...) {`, "", "}", `house.main = "m"`, "house.loop()")
	}
}

// fullBundle: a bundle whose text has so many bytes by blanks in its last source.
func fullBundle(t *testing.T, total int, head string) impl.Bundle {
	t.Helper()
	b := bundleOf([]string{"lib"}, "a", sized(20000), "b", sized(20000), "lib/c", head, "d", "")
	room := total - len(plainLinkText(b, "./a"))
	for i := range b.Sources {
		more := min(room, 20000-len(b.Sources[i].Text))
		b.Sources[i].Text += sized(more)
		room -= more
	}
	if room != 0 || plainBundleOk(b).Code != 0 {
		t.Fatal("no room", room)
	}
	return b
}

// P9: linked texts of 65536 bytes, and of one more; as they become, not as the sources are.
func TestLinkTextLength(t *testing.T) {
	for _, head := range []string{"", strings.Repeat("import(\"c\")\n", 30), strings.Repeat("import(\"a-long-name-that-leads-to-nothing\")\n", 50)} {
		for total, ok := range map[int]bool{65535: true, 65536: true, 65537: false, 66000: false} {
			b := fullBundle(t, total, head)
			text := impl.LinkText(b, "./a")
			if ok && (len(text) != total || impl.Link(b, "./a").Code != 0) || !ok && text != "" {
				t.Errorf("%d: %d bytes, code %d", total, len(text), impl.Link(b, "./a").Code)
			}
			if !ok {
				checkLinked(t, fmt.Sprint(total), b, "./a", impl.Linked{Code: 3})
				checkLinked(t, fmt.Sprint(total), b, "z", impl.Linked{Code: 2})
			}
			wantTold(t, fmt.Sprint(total), text, plainLinkText(b, "./a"))
		}
	}
	most := bundleOfMany(20)
	for i := range most.Sources {
		most.Sources[i].Text = sized(20000)
	}
	if impl.LinkText(most, "./s0") != "" || impl.PlaceOf(most, 71) != (impl.Place{Source: 0, Line: 1}) || impl.PlaceOf(most, 69+19*3+2) != (impl.Place{Source: 19, Line: 1}) {
		t.Error("the most that a bundle may be")
	}
	checkLinked(t, "the most that a bundle may be", most, "./s0", impl.Linked{Code: 3})
}

// P9: a newline at either end, and texts without one: which lines are the sources', each held against its source.
func TestPlaceOfLines(t *testing.T) {
	b := bundleOf([]string{""}, "a", "print(1)", "b", "", "c", "\n", "d", "f()\n\n  f()\n", "e", "\nf()", "f", "--")
	want := map[int]impl.Place{
		71: {Source: 0, Line: 1},
		74: {Source: 1, Line: 1},
		77: {Source: 2, Line: 1}, 78: {Source: 2, Line: 2},
		81: {Source: 3, Line: 1}, 82: {Source: 3, Line: 2}, 83: {Source: 3, Line: 3}, 84: {Source: 3, Line: 4},
		87: {Source: 4, Line: 1}, 88: {Source: 4, Line: 2},
		91: {Source: 5, Line: 1},
	}
	lines := strings.Split(impl.LinkText(b, "a"), "\n")
	for line := 1; line <= 120; line++ {
		place, ok := want[line]
		if !ok {
			place = impl.Place{Source: -1, Line: line}
		}
		got := impl.PlaceOf(b, line)
		if got != place {
			t.Errorf("line %d: %v, want %v", line, got, place)
		}
		if got.Source >= 0 && lines[line-1] != strings.Split(b.Sources[got.Source].Text, "\n")[got.Line-1] {
			t.Errorf("line %d: %q", line, lines[line-1])
		}
	}
	if lines[93] != "house.loop()" || len(lines) != 95 {
		t.Errorf("%q", lines[69:])
	}
	for _, line := range []int{0, -1, -70, leastInt} {
		if got := impl.PlaceOf(b, line); got != (impl.Place{Source: -1}) {
			t.Errorf("line %d: %v", line, got)
		}
	}
	for _, line := range []int{95, 65537, 100001, mostInt} {
		if got := impl.PlaceOf(b, line); got != (impl.Place{Source: -1, Line: line}) {
			t.Errorf("line %d: %v", line, got)
		}
	}
	checkPlaces(t, "six sources", b)
	checkPlaces(t, "one source", bundleOf(nil, "a", "\n\n\nf()\n"))
	checkPlaces(t, "most sources", bundleOfMany(20))
	checkPlaces(t, "not well made", bundleOf(nil, "a", "f()\n("))
	checkPlaces(t, "no sources", impl.Bundle{})
	checkPlaces(t, "no empty root, so that main leads nowhere", bundleOf([]string{"lib"}, "a", "f()\n\n"))
}

// P9: a text with as many lines as it may have bytes.
func TestPlaceOfManyLines(t *testing.T) {
	b := bundleOf(nil, "a", strings.Repeat("\n", 20000), "b", "f()")
	for line, want := range map[int]impl.Place{70: {Source: -1, Line: 70}, 71: {Line: 1}, 20070: {Line: 20000}, 20071: {Line: 20001}, 20072: {Source: -1, Line: 20072}, 20073: {Source: -1, Line: 20073}, 20074: {Source: 1, Line: 1}, 20075: {Source: -1, Line: 20075}} {
		if got := impl.PlaceOf(b, line); got != want {
			t.Errorf("line %d: %v, want %v", line, got, want)
		}
	}
}

// drawnBundle: a bundle by chance, sometimes not well made.
func drawnBundle(rng *rand.Rand) impl.Bundle {
	names := []string{"a", "b", "x/a", "x/m", "lib/c", "x/y/d", "main", "lib/x/a"}
	rng.Shuffle(len(names), func(i, j int) { names[i], names[j] = names[j], names[i] })
	var pieces []string
	for text := range importTexts() {
		pieces = append(pieces, text)
	}
	slices.Sort(pieces)
	pieces = append(pieces, "let x, f = {}, print", "return ...", "break", "print = 1", "const k = f()", "let g = fn() {return ...}", "while true {break}", "print(import, now, after, on, read, house)")
	var b impl.Bundle
	for range rng.Intn(4) {
		b.Roots = append(b.Roots, []string{"", "lib", "x", "x/y"}[rng.Intn(4)])
	}
	for _, name := range names[:1+rng.Intn(len(names))] {
		text := []string{"", "let x, f, imports, import1, _import, Import, IMPORT, imp = {}\n"}[rng.Intn(2)]
		for range rng.Intn(4) {
			text += pieces[rng.Intn(len(pieces))] + []string{"\n", "\n\n", "\n--\n"}[rng.Intn(3)]
		}
		b.Sources = append(b.Sources, impl.Source{Name: name, Text: strings.TrimSuffix(text, strings.Repeat("\n", rng.Intn(2)))})
	}
	if rng.Intn(8) == 0 {
		spoilt := rng.Intn(len(b.Sources))
		switch rng.Intn(4) {
		case 0:
			b.Sources[spoilt].Text += "("
		case 1:
			b.Sources[spoilt].Name += "/."
		case 2:
			b.Roots = append(b.Roots, "./x")
		default:
			b.Sources = append(b.Sources, b.Sources[spoilt])
		}
	}
	return b
}

// P9: bundles by chance: their texts, places and units; every line of a source is that source's but for the names of its imports.
func TestBundlesByChance(t *testing.T) {
	rng := rand.New(rand.NewSource(181))
	codes := map[int]int{}
	for n := range 600 {
		b := drawnBundle(rng)
		told := fmt.Sprintf("bundle %d %q", n, b)
		mains := []string{"a", "./a", "c", "./main", "y/d", "x/m"}
		main := mains[rng.Intn(len(mains))]
		checkBundle(t, told, b, main)
		codes[impl.Link(b, main).Code]++
		if n%10 == 0 {
			checkPlaces(t, told, b)
		}
		for i, line := range strings.Split(impl.LinkText(b, main), "\n") {
			place := impl.PlaceOf(b, i+1)
			if place.Source < 0 {
				continue
			}
			own := strings.Split(b.Sources[place.Source].Text, "\n")[place.Line-1]
			if line != own && !strings.Contains(own, "import") {
				t.Errorf("%s: line %d %q, want %q", told, i+1, line, own)
			}
		}
	}
	for _, code := range []int{0, 1, 2, 4, 5, 6, 7, 8} {
		if codes[code] < 3 {
			t.Errorf("only %d of code %d: %v", codes[code], code, codes)
		}
	}
}
