package tests

import (
	"math/rand"
	"slices"
	"strings"
	"testing"

	"loop.example/heddle/impl"
)

// P9: the constants of chapter 18.
func TestBundleConstants(t *testing.T) {
	got := []int{impl.MaxPathName, impl.MaxRoots, impl.MaxSources, impl.MaxSource}
	if want := []int{60, 8, 20, 20000}; !slices.Equal(got, want) {
		t.Errorf("constants %v, want %v", got, want)
	}
}

// checkCleans: what Clean answers for each name: a Name, or a Code in digits.
func checkCleans(t *testing.T, wants map[string]string) {
	t.Helper()
	for name, want := range wants {
		wantTold(t, "Clean of "+name, cleanedTold(impl.Clean(name)), want)
		wantTold(t, "plain Clean of "+name, cleanedTold(plainClean(name)), want)
	}
}

// cleanedTold: a Name as it is, a Code behind an exclamation mark.
func cleanedTold(c impl.Cleaned) string {
	if c.Code == 0 {
		return c.Name
	}
	return "!" + string(rune('0'+c.Code)) + c.Name
}

// P9: names that have a form, and those that are none: empty parts, dots, ways out.
func TestCleanNames(t *testing.T) {
	checkCleans(t, map[string]string{
		"a": "a", "a/b": "a/b", "a/b/c": "a/b/c", "0": "0", "-": "-", "_": "_", "--": "--", "a-1/_/0": "a-1/_/0", "z9": "z9", "a/a": "a/a",
		"./a": "a", "././a": "a", "a/.": "a", "a/./b": "a/b", "./a/./b/.": "a/b",
		"a/../b": "b", "a/b/..": "a", "a/b/../c": "a/c", "a/b/../../c": "c", "a/../b/../c": "c", "a/./../b": "b", "a/../a": "a",
	})
	checkCleans(t, map[string]string{
		"": "!1", "/": "!1", "//": "!1", "/a": "!1", "a/": "!1", "a//b": "!1", "//a": "!1", "a//": "!1", "./": "!1", "/.": "!1", "a/b/": "!1",
		".": "!1", "./.": "!1", "a/..": "!1", "a/b/../..": "!1", "./a/..": "!1", "a/../.": "!1", "a/../b/..": "!1",
		"..": "!2", "../a": "!2", "./..": "!2", "a/../..": "!2", "a/../../a": "!2", "a/b/../../..": "!2", "a/../../b/c": "!2", "../..": "!2",
		"...": "!1", "....": "!1", ".a": "!1", "a.": "!1", "a.b": "!1", "..a": "!1", "a..": "!1", ".-": "!1", "a/.../b": "!1", "a/b.c": "!1",
		"A": "!1", "aB": "!1", "a b": "!1", " a": "!1", "a\n": "!1", "a\x00": "!1", "a\\b": "!1", "\xff": "!1", "\u00e9": "!1", "a/\u212a": "!1", "a:b": "!1",
	})
}

// P9: of two faults in a name the first one's part counts.
func TestCleanTwoFaults(t *testing.T) {
	checkCleans(t, map[string]string{
		"A/..": "!1", "../A": "!2", "A/../..": "!1", "a/../../A": "!2", "a/A/../../..": "!1", "//..": "!1", "..//": "!2",
		"a/../..//b": "!2", "a//../../b": "!1", "./../.a": "!2", ".a/../..": "!1", "../": "!2", "/..": "!1", "../a/..": "!2",
	})
}

// P9: every byte, alone, in a part of its own and inside of one.
func TestCleanBytes(t *testing.T) {
	const may = "abcdefghijklmnopqrstuvwxyz0123456789_-"
	for b := range 256 {
		s := string([]byte{byte(b)})
		ok := strings.Contains(may, s)
		wants := map[string]string{s: "!1", "x" + s + "y": "!1", "x/" + s: "!1", s + "/x": "!1"}
		for name := range wants {
			if ok {
				wants[name] = name
			}
		}
		switch s {
		case ".":
			wants["x/."], wants["./x"] = "x", "x"
		case "/":
			wants["x/y"] = "x/y"
		}
		checkCleans(t, wants)
	}
	checkCleans(t, map[string]string{may: may})
}

// P9: names of 60 bytes and of one more, right and wrong.
func TestCleanLength(t *testing.T) {
	a := func(count int) string { return strings.Repeat("a", count) }
	dots := strings.Repeat("./", 29)
	checkCleans(t, map[string]string{
		a(60): a(60), a(61): "!3", a(1000): "!3",
		dots + "aa": "aa", dots + "aaa": "!3", dots + "..": "!2", dots + ".../": "!3", dots + ".a": "!1", dots + ".": "!1",
		strings.Repeat("a/", 29) + "a": strings.Repeat("a/", 29) + "a", strings.Repeat("a/", 29) + "aa": strings.Repeat("a/", 29) + "aa",
		strings.Repeat("a/", 30): "!1", strings.Repeat("a/", 30) + "a": "!3", strings.Repeat("a/", 29) + "aaa": "!3",
		strings.Repeat("A", 60): "!1", strings.Repeat("A", 61): "!3", strings.Repeat("/", 60): "!1", strings.Repeat("/", 61): "!3",
		strings.Repeat("../", 20): "!2", strings.Repeat("../", 20) + "a": "!3", "../" + a(57): "!2", "../" + a(58): "!3",
		a(57) + "/..": "!1", a(58) + "/..": "!3", strings.Repeat("a", 56) + "/../": "!1",
	})
	if got := impl.Clean(strings.Repeat("a", 1<<20)); got != (impl.Cleaned{Code: 3}) {
		t.Error(got.Code)
	}
}

// checkWithin: what Within answers, told as Clean is.
func checkWithin(t *testing.T, from, name, want string) {
	t.Helper()
	wantTold(t, "Within of "+from+", "+name, cleanedTold(impl.Within(from, name)), want)
	wantTold(t, "plain Within of "+from+", "+name, cleanedTold(plainWithin(from, name)), want)
}

// P9: names walked from where modules stand, inside, out and too far out.
func TestWithin(t *testing.T) {
	for _, c := range [][3]string{
		{"m", "a", "a"}, {"m", "./a", "a"}, {"m", "a/b", "a/b"}, {"m", "a/..", "!1"}, {"m", ".", "!1"}, {"m", "..", "!2"}, {"m", "../a", "!2"},
		{"x/m", "a", "x/a"}, {"x/m", "./a", "x/a"}, {"x/m", ".", "x"}, {"x/m", "..", "!1"}, {"x/m", "../a", "a"}, {"x/m", "../..", "!2"}, {"x/m", "../../a", "!2"},
		{"x/m", "m", "x/m"}, {"x/m", "../x/m", "x/m"}, {"x/m", "a/../..", "!1"}, {"x/m", "a/../../..", "!2"}, {"x/m", "../../A", "!2"}, {"x/m", "A/../../..", "!1"},
		{"x/y/z/m", "a", "x/y/z/a"}, {"x/y/z/m", "../../..", "!1"}, {"x/y/z/m", "../../../a", "a"}, {"x/y/z/m", "../../../..", "!2"}, {"x/y/z/m", "../..", "x"},
		{"./x/./m", "a", "x/a"}, {"x/../m", "a", "a"}, {"x/../m", "../a", "!2"}, {"x/m/.", "a", "x/a"}, {"x/m/n/..", "a", "x/a"},
		{"x/m", "", "!1"}, {"x/m", "/a", "!1"}, {"x/m", "a/", "!1"}, {"x/m", "A", "!1"}, {"x/m", ".a", "!1"}, {"x/m", "...", "!1"},
	} {
		checkWithin(t, c[0], c[1], c[2])
	}
}

// P9: a `from` that has no Clean is looked for first, whatever the name is.
func TestWithinWrongFrom(t *testing.T) {
	long := strings.Repeat("a", 61)
	for _, from := range []string{"", ".", "..", "/", "a/..", "a/../..", "A", "x/", "/x", "x//m", "a.b", long, "./" + strings.Repeat("a", 59)} {
		for _, name := range []string{"a", "./a", "../a", "", ".", "..", "A", "a//b", long} {
			checkWithin(t, from, name, "!4")
		}
	}
}

// P9: names, and what comes out, of 60 bytes and of one more.
func TestWithinLength(t *testing.T) {
	a := func(count int) string { return strings.Repeat("a", count) }
	checkWithin(t, "m", a(60), a(60))
	checkWithin(t, "m", a(61), "!3")
	checkWithin(t, a(60), "b", "b")
	checkWithin(t, "x/m", a(58), "x/"+a(58))
	checkWithin(t, "x/m", a(59), "!3")
	checkWithin(t, "x/m", a(60), "!3")
	checkWithin(t, "x/m", "../"+a(57), a(57))
	checkWithin(t, "x/m", "../"+a(58), "!3")
	checkWithin(t, a(58)+"/m", "b", a(58)+"/b")
	checkWithin(t, a(58)+"/m", "bb", "!3")
	checkWithin(t, a(58)+"/m", "bb/..", a(58))
	checkWithin(t, a(58)+"/m", "bb/../b", a(58)+"/b")
	checkWithin(t, a(58)+"/m", "bb/A", "!1")
	checkWithin(t, a(58)+"/m", "bb/../../..", "!2")
	checkWithin(t, "x/m", strings.Repeat("A", 60), "!1")
	checkWithin(t, "x/m", strings.Repeat("A", 61), "!3")
	checkWithin(t, "x/m", strings.Repeat("../", 20), "!2")
	checkWithin(t, "x/m", strings.Repeat("../", 20)+"a", "!3")
}

// checkTries: what Tries gives; a name that has to be cleaned stands in it as its form.
func checkTries(t *testing.T, roots []string, from, name string, want ...string) {
	t.Helper()
	before := slices.Clone(roots)
	if got := impl.Tries(roots, from, name); !slices.Equal(got, want) {
		t.Errorf("Tries(%q, %q, %q) %q, want %q", roots, from, name, got, want)
	}
	if got := plainTries(roots, from, name); !slices.Equal(got, want) {
		t.Errorf("plain Tries(%q, %q, %q) %q, want %q", roots, from, name, got, want)
	}
	if !slices.Equal(roots, before) {
		t.Errorf("Tries(%q, %q, %q): the roots have changed", before, from, name)
	}
}

// P9: names whose first part is a dot or two: Within alone, whatever the roots are.
func TestTriesDots(t *testing.T) {
	for _, roots := range [][]string{nil, {""}, {"lib"}, {"", "lib", "A", ".."}, make([]string, 8)} {
		checkTries(t, roots, "x/m", "./a", "x/a")
		checkTries(t, roots, "x/m", "../a", "a")
		checkTries(t, roots, "x/m", ".", "x")
		checkTries(t, roots, "m", "./a/../b", "b")
		checkTries(t, roots, "x/y/m", "..", "x")
		for _, name := range []string{"..", "../..", "../../a", "./", "./A", "../A", "./../..", "./" + strings.Repeat("a", 59)} {
			checkTries(t, roots, "x/m", name)
		}
		for _, from := range []string{"", "..", "A", "x/", strings.Repeat("a", 61)} {
			checkTries(t, roots, from, "./a")
			checkTries(t, roots, from, "../a")
		}
	}
	// Dots that are not the whole first part, or not the first part.
	checkTries(t, []string{"", "lib"}, "x/m", ".a")
	checkTries(t, []string{"", "lib"}, "x/m", "...")
	checkTries(t, []string{"", "lib"}, "x/m", "..a/b")
	checkTries(t, []string{"", "lib"}, "x/m", "a/./b", "a/b", "lib/a/b")
	checkTries(t, []string{"", "lib"}, "x/m", "a/../b", "b", "lib/b")
	checkTries(t, []string{"", "lib"}, "x/m", "/./a")
}

// P9: names looked for under roots: empty ones, such as have another form, such as have none, the same place by two.
func TestTriesRoots(t *testing.T) {
	for _, from := range []string{"m", "x/y/m", "", "A", "..", strings.Repeat("a", 61)} {
		checkTries(t, nil, from, "a")
		checkTries(t, []string{}, from, "a")
		checkTries(t, []string{""}, from, "a", "a")
		checkTries(t, []string{"lib"}, from, "a", "lib/a")
		checkTries(t, []string{"lib", "", "x/y"}, from, "a/b", "lib/a/b", "a/b", "x/y/a/b")
		checkTries(t, []string{"", "", "lib", "", "lib"}, from, "a", "a", "lib/a")
		checkTries(t, []string{"lib", "./lib", "lib/.", "x/../lib", "a"}, from, "a", "lib/a", "a/a")
		checkTries(t, []string{".", "", "x/..", "./."}, from, "a", "a")
		checkTries(t, []string{"..", "lib", "x/../.."}, from, "a", "lib/a")
		checkTries(t, []string{"A", "/", "lib/", "/lib", "x//y", "...", " ", "lib"}, from, "a", "lib/a")
		checkTries(t, []string{"A"}, from, "a")
		checkTries(t, []string{"x", "x/a"}, from, "a/b", "x/a/b", "x/a/a/b")
		checkTries(t, []string{"x/a", "x"}, from, "a", "x/a/a", "x/a")
	}
	for _, name := range []string{"", "/", "a/", "/a", "a//b", "A", "a/..", "a/../..", "a.b", strings.Repeat("a", 61), "b/./" + strings.Repeat("a", 57)} {
		checkTries(t, []string{"", "lib", "x/y"}, "m", name)
	}
}

// P9: as many roots as there may be, and one more.
func TestTriesMostRoots(t *testing.T) {
	roots := strings.Split("r1,r2,r3,r4,r5,r6,r7,r8,r9", ",")
	checkTries(t, roots[:8], "m", "a", "r1/a", "r2/a", "r3/a", "r4/a", "r5/a", "r6/a", "r7/a", "r8/a")
	checkTries(t, roots, "m", "a")
	checkTries(t, roots, "x/m", "./a")
	checkTries(t, make([]string, 8), "m", "a", "a")
	checkTries(t, make([]string, 9), "m", "a")
	checkTries(t, make([]string, 9), "m", "../a")
	checkTries(t, slices.Repeat([]string{"A"}, 9), "m", "a")
}

// P9: root, slash and name of 60 bytes together, and of one more: as they stand, not as they become.
func TestTriesLength(t *testing.T) {
	a := func(count int) string { return strings.Repeat("a", count) }
	checkTries(t, []string{"lib"}, "m", a(56), "lib/"+a(56))
	checkTries(t, []string{"lib"}, "m", a(57))
	checkTries(t, []string{"lib", "", "x"}, "m", a(58), a(58), "x/"+a(58))
	checkTries(t, []string{"lib", "", "x"}, "m", a(60), a(60))
	checkTries(t, []string{a(58), a(59), a(60), a(61)}, "m", "b", a(58)+"/b")
	checkTries(t, []string{"./" + a(56), "./" + a(57)}, "m", "b", a(56)+"/b")
	checkTries(t, []string{"lib"}, "m", "b/../"+a(55), "lib/"+a(55))
	checkTries(t, []string{"lib/../x"}, "m", a(51), "x/"+a(51))
	checkTries(t, []string{"lib/../x"}, "m", a(52))
}

// P9, P17: names of all sorts by chance, the same twice over.
func TestNamesByChance(t *testing.T) {
	rng := rand.New(rand.NewSource(180))
	parts := []string{"a", "b", "a", "lib", "x-1", "_", "0", ".", "..", ".", "..", "", "A", "...", "a.b", " ", "\xc3\xa9", strings.Repeat("c", 17), strings.Repeat("d", 28)}
	drawn := func() string {
		limit := len(parts)
		if rng.Intn(3) != 0 {
			limit = 11
		}
		var row []string
		for range 1 + rng.Intn(6) {
			row = append(row, parts[rng.Intn(limit)])
		}
		return strings.Join(row, "/")
	}
	codes := map[int]int{}
	for range 30000 {
		var roots []string
		for range rng.Intn(10) {
			roots = append(roots, []string{"", drawn(), "lib", "a"}[rng.Intn(4)])
		}
		from, name := drawn(), drawn()
		checkNames(t, roots, from, name)
		codes[impl.Clean(name).Code]++
		codes[10+impl.Within(from, name).Code]++
		codes[20+len(impl.Tries(roots, from, name))]++
		checkNames(t, roots, from, name)
	}
	for _, code := range []int{0, 1, 2, 3, 10, 11, 12, 13, 14, 20, 21, 22, 23, 24} {
		if codes[code] < 50 {
			t.Errorf("only %d of %d", codes[code], code)
		}
	}
}

// P9: what names come out is new memory; it hangs on no second answer.
func TestNamesMemory(t *testing.T) {
	for _, name := range []string{"a-name", "x/a", strings.Repeat("a", 60)} {
		if got := impl.Clean(name); got.Name != name || sharesText(got.Name, name) {
			t.Errorf("Clean(%q) %q", name, got.Name)
		}
		if got := impl.Within("m", name); got.Name != name || sharesText(got.Name, name) {
			t.Errorf("Within(%q) %q", name, got.Name)
		}
		roots := append(make([]string, 0, 8), "", "lib")
		one, two := impl.Tries(roots, "m", name), impl.Tries(roots, "m", name)
		want := slices.Clone(two)
		if sharedTexts(one, []string{name, roots[1]}) || sharedTexts(one, two) {
			t.Errorf("Tries of %q: a text is not new", name)
		}
		for i := range one[:cap(one)] {
			one[:cap(one)][i] = "overwritten"
		}
		if !slices.Equal(two, want) || !slices.Equal(impl.Tries(roots, "m", name), want) || !slices.Equal(roots[:cap(roots)], []string{"", "lib", "", "", "", "", "", ""}) {
			t.Errorf("Tries of %q: memory is shared: %q", name, two)
		}
	}
}
