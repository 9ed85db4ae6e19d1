package tests

import (
	"fmt"
	"slices"
	"strings"
	"testing"

	"loop.example/heddle/impl"
)

// tooLarge: texts of at most 20000 bytes whose Parse has Code 2.
func tooLarge() []string {
	return []string{
		strings.Repeat("a", 41) + "()",
		`f("` + strings.Repeat("x", 4001) + `")`,
		"x = " + strings.Repeat("~", 101) + "1",
		strings.Repeat("{", 101) + strings.Repeat("}", 101),
		strings.Repeat("f()\n", 201),
		"x = 0." + strings.Repeat("1", 40),
		strings.Repeat("{"+strings.Repeat("f();", 200)+"};", 8),
	}
}

// sized: a well-formed text of so many bytes.
func sized(count int) string { return strings.Repeat(" ", count) }

// checkBundleFault: what BundleOk answers; what is not well made has no text, no places and no unit.
func checkBundleFault(t *testing.T, told string, b impl.Bundle, want impl.BundleFault) {
	t.Helper()
	before := copiedBundle(b)
	if got := impl.BundleOk(b); got != want {
		t.Errorf("%s: %v, want %v", told, got, want)
	}
	if got := plainBundleOk(b); got != want {
		t.Errorf("%s: plainly %v, want %v", told, got, want)
	}
	if want.Code != 0 {
		for _, main := range []string{"a", "b", "", "z"} {
			if impl.LinkText(b, main) != "" {
				t.Errorf("%s: LinkText with %q", told, main)
			}
			checkLinked(t, told, b, main, impl.Linked{Code: 1, Source: want.Source})
		}
		for _, line := range []int{leastInt, -1, 0, 1, 60, 69, 70, 71, 72, mostInt} {
			if got := impl.PlaceOf(b, line); got != (impl.Place{Source: -1}) {
				t.Errorf("%s: PlaceOf line %d %v", told, line, got)
			}
		}
	}
	if !sameBundle(b, before) {
		t.Errorf("%s: the bundle has changed", told)
	}
}

// bundleOfMany: so many sources s0, s1, ..
func bundleOfMany(count int) impl.Bundle {
	var b impl.Bundle
	for i := range count {
		b.Sources = append(b.Sources, impl.Source{Name: fmt.Sprint("s", i)})
	}
	return b
}

// P9: code 1: how many sources and roots there may be, and roots in their one form.
func TestBundleOkWhole(t *testing.T) {
	one := impl.BundleFault{Code: 1}
	checkBundleFault(t, "nothing", impl.Bundle{}, one)
	checkBundleFault(t, "no sources", impl.Bundle{Roots: []string{""}, Sources: []impl.Source{}}, one)
	for count, want := range map[int]impl.BundleFault{1: {}, 2: {}, 19: {}, 20: {}, 21: one, 50: one} {
		checkBundleFault(t, fmt.Sprint(count, " sources"), bundleOfMany(count), want)
	}
	for count, want := range map[int]impl.BundleFault{0: {}, 1: {}, 7: {}, 8: {}, 9: one, 50: one} {
		checkBundleFault(t, fmt.Sprint(count, " empty roots"), bundleOf(make([]string, count), "a", ""), want)
		checkBundleFault(t, fmt.Sprint(count, " roots"), bundleOf(slices.Repeat([]string{"lib"}, count), "a", ""), want)
	}
	for _, root := range []string{"a", "lib", "x/y", "a-1/_", strings.Repeat("a", 60)} {
		checkBundleFault(t, "root "+root, bundleOf([]string{"", root, "lib"}, "a", ""), impl.BundleFault{})
	}
	for _, root := range []string{".", "..", "./a", "a/.", "a/..", "a/../b", "../a", "/", "/a", "a/", "a//b", "A", "a.b", " ", "\xff", strings.Repeat("a", 61)} {
		for _, roots := range [][]string{{root}, {root, "lib", ""}, {"", "lib", root}, {"1", "2", "3", "4", "5", "6", "7", root}} {
			checkBundleFault(t, fmt.Sprintf("roots %q", roots), bundleOf(roots, "a", "", "b", ""), one)
		}
	}
}

// P9: code 2: names in their one form, and only once.
func TestBundleOkNames(t *testing.T) {
	for _, name := range []string{"a", "main", "house", "import", "x/y", "a-1/_", "0", strings.Repeat("a", 60)} {
		checkBundleFault(t, name, bundleOf(nil, name, "", "b", ""), impl.BundleFault{})
	}
	for _, name := range []string{"", ".", "..", "./a", "a/.", "a/..", "x/../a", "../a", "/", "/a", "a/", "a//b", "A", "a.b", " ", "\xff", strings.Repeat("a", 61)} {
		for at := range 3 {
			b := bundleOf([]string{""}, "s0", "", "s1", "", "s2", "")
			b.Sources[at].Name = name
			checkBundleFault(t, fmt.Sprintf("%q at %d", name, at), b, impl.BundleFault{Code: 2, Source: at})
		}
	}
	checkBundleFault(t, "a name twice", bundleOf(nil, "a", "", "a", ""), impl.BundleFault{Code: 2, Source: 1})
	checkBundleFault(t, "a name twice, apart", bundleOf(nil, "a", "", "b", "", "c", "", "b", ""), impl.BundleFault{Code: 2, Source: 3})
	checkBundleFault(t, "all the same", bundleOf(nil, "x", "", "x", "", "x", ""), impl.BundleFault{Code: 2, Source: 1})
	checkBundleFault(t, "another form of one", bundleOf(nil, "a", "", "./a", ""), impl.BundleFault{Code: 2, Source: 1})
	checkBundleFault(t, "the empty name twice", bundleOf(nil, "", "", "", ""), impl.BundleFault{Code: 2})
	checkBundleFault(t, "names that begin alike", bundleOf(nil, "a", "", "a/a", "", "aa", "", "a-a", ""), impl.BundleFault{})
	many := bundleOfMany(20)
	many.Sources[19].Name = "s0"
	checkBundleFault(t, "the last one as the first", many, impl.BundleFault{Code: 2, Source: 19})
}

// P9: codes 3 and 4: texts that are too long, too large, or not well-formed.
func TestBundleOkTexts(t *testing.T) {
	for at := range 3 {
		with := func(text string) impl.Bundle {
			b := bundleOf([]string{""}, "a", "", "b", "f()", "c", "return")
			b.Sources[at].Text = text
			return b
		}
		for count, code := range map[int]int{0: 0, 1: 0, 19999: 0, 20000: 0, 20001: 3, 65536: 3, 65537: 3} {
			want := impl.BundleFault{Code: code}
			if code != 0 {
				want.Source = at
			}
			checkBundleFault(t, fmt.Sprint(count, " bytes"), with(sized(count)), want)
		}
		for _, text := range tooLarge() {
			checkBundleFault(t, shortly(text), with(text), impl.BundleFault{Code: 3, Source: at})
		}
		for text, place := range map[string]int{"(": 1, ")": 0, "let x ==": 7, "}": 0, "{": 1, "f()\n@": 4, `f("a`: 4, "}\n{": 0, "} f = fn(...) {": 0, "x": 1, "--\n\"": 3, sized(19999) + ")": 19999} {
			checkBundleFault(t, shortly(text), with(text), impl.BundleFault{Code: 4, Source: at, At: place})
		}
		checkBundleFault(t, "wrong behind the limit", with(sized(20000)+")"), impl.BundleFault{Code: 3, Source: at})
	}
}

// bundleSpoilers: what may be wrong with a bundle of three sources, each alone.
func bundleSpoilers() map[string]func(b *impl.Bundle) {
	all := map[string]func(b *impl.Bundle){
		"too many sources": func(b *impl.Bundle) { b.Sources = append(b.Sources, bundleOfMany(18).Sources...) },
		"too many roots":   func(b *impl.Bundle) { b.Roots = append(b.Roots, make([]string, 9)...) },
		"a wrong root":     func(b *impl.Bundle) { b.Roots = append(b.Roots, "./a") },
	}
	for i := range 3 {
		all[fmt.Sprint("name ", i, " of another form")] = func(b *impl.Bundle) { b.Sources[i].Name = "./" + b.Sources[i].Name }
		all[fmt.Sprint("name ", i, " as another")] = func(b *impl.Bundle) { b.Sources[i].Name = b.Sources[(i+1)%3].Name }
		all[fmt.Sprint("text ", i, " too long")] = func(b *impl.Bundle) { b.Sources[i].Text = sized(20001) }
		all[fmt.Sprint("text ", i, " too large")] = func(b *impl.Bundle) { b.Sources[i].Text = tooLarge()[0] }
		all[fmt.Sprint("text ", i, " not well-formed")] = func(b *impl.Bundle) { b.Sources[i].Text = "f(" }
	}
	return all
}

// P9: of two faults the first one by the list, 3 and 4 as one, then by the source.
func TestBundleOkTwoFaults(t *testing.T) {
	for one, spoil := range bundleSpoilers() {
		for two, again := range bundleSpoilers() {
			b := bundleOf([]string{""}, "a", "", "b", "f()", "c", "return")
			spoil(&b)
			again(&b)
			if got, want := impl.BundleOk(b), plainBundleOk(b); got != want || got.Code == 0 && one == two {
				t.Errorf("%s, %s: %v, want %v", one, two, got, want)
			}
		}
	}
	for told, c := range map[string]struct {
		b    impl.Bundle
		want impl.BundleFault
	}{
		"root and name":         {bundleOf([]string{"A"}, "A", ""), impl.BundleFault{Code: 1}},
		"root and text":         {bundleOf([]string{"A"}, "a", "", "b", "("), impl.BundleFault{Code: 1}},
		"text and later name":   {bundleOf(nil, "a", "(", "B", ""), impl.BundleFault{Code: 2, Source: 1}},
		"length and later name": {bundleOf(nil, "a", sized(20001), "b", "", "b", ""), impl.BundleFault{Code: 2, Source: 2}},
		"3 ahead of 4":          {bundleOf(nil, "a", sized(20001), "b", "("), impl.BundleFault{Code: 3}},
		"4 ahead of 3":          {bundleOf(nil, "a", "f((", "b", sized(20001)), impl.BundleFault{Code: 4, At: 3}},
		"4 ahead of 3, behind":  {bundleOf(nil, "a", "", "b", "(", "c", tooLarge()[1], "d", ")"), impl.BundleFault{Code: 4, Source: 1, At: 1}},
		"4 twice":               {bundleOf(nil, "a", "", "b", "(", "c", "f(("), impl.BundleFault{Code: 4, Source: 1, At: 1}},
		"names twice":           {bundleOf(nil, "a", "", "B", "", "C", ""), impl.BundleFault{Code: 2, Source: 1}},
	} {
		checkBundleFault(t, told, c.b, c.want)
	}
}
