package tests

import (
	"cmp"
	"fmt"
	"path"
	"regexp"
	"slices"
	"strings"
	"testing"

	"loop.example/heddle/impl"
)

// houseSpaced: the house's own text as the document has it, each tab as four spaces.
const houseSpaced = `let import, now, after, on, read, house = (fn(line) {
    let clock, state, gives, why, due, hears, held = 0, {}, {}, {}, {}, {}, {}
    let house = {.mods = {}, .main = ""}
    fn import(name) {
        let s = state[name]
        if s == "loaded" {return gives[name]}
        if s == "loading" {throw {.code = "ring", .name = name}}
        if s == "failed" {throw {.code = "failed", .name = name, .why = why[name]}}
        let f = house.mods[name]
        if f == nil {throw {.code = "absent", .name = name}}
        state[name] = "loading"
        try {
            gives[name] = f(name)
            state[name] = "loaded"
        } catch e {
            state[name] = "failed"
            why[name] = e
            throw e
        }
        return gives[name]
    }
    fn now() {return clock}
    fn after(n, f) {
        let x, k = {.at = clock + n, .f = f}, #due + 1
        while k > 1 {
            if due[k - 1].at <= x.at {break}
            due[k] = due[k - 1]
            k = k - 1
        }
        due[k] = x
    }
    fn on(name, f) {hears[name] = f}
    fn first(list) {
        let x, k = list[1], 1
        while list[k + 1] ~= nil {
            list[k] = list[k + 1]
            k = k + 1
        }
        list[k] = nil
        return x
    }
    fn read() {return first(held)}
    fn guard(f, a) {
        try {
            f(a)
        } catch e, trace {
            if type(e) == "table" {print("error", e.code, trace)} else {print("error", e, trace)}
        }
    }
    fn tick() {
        clock = clock + 1
        while due[1] ~= nil {
            if due[1].at > clock {break}
            let x = first(due)
            guard(x.f)
        }
    }
    house.loop = fn() {
        while true {
            let k = line()
            if k == nil {break}
            if k == "tick" {tick()} elif k == "begin" {guard(import, house.main)} elif k == "input" {held[#held + 1] = line()} elif k == "say" {
                let n, x = line(), line()
                if hears[n] == nil {print("nobody hears", n)} else {guard(hears[n], x)}
            }
        }
    }
    return import, now, after, on, read, house
})(read)
`

func houseOwn() string { return strings.ReplaceAll(houseSpaced, "    ", "\t") }

var partForm = regexp.MustCompile(`^(\.|\.\.|[a-z0-9_-]+)$`)

// plainFollowed: where a name leads from a folder, "." for the outermost one; by the library's paths.
func plainFollowed(dir, name string) impl.Cleaned {
	if len(name) > 60 {
		return impl.Cleaned{Code: 3}
	}
	parts := strings.Split(name, "/")
	for i, part := range parts {
		if !partForm.MatchString(part) {
			return impl.Cleaned{Code: 1}
		}
		if strings.HasPrefix(path.Join(dir, path.Join(parts[:i+1]...)), "..") {
			return impl.Cleaned{Code: 2}
		}
	}
	whole := path.Join(dir, name)
	switch {
	case whole == ".":
		return impl.Cleaned{Code: 1}
	case len(whole) > 60:
		return impl.Cleaned{Code: 3}
	}
	return impl.Cleaned{Name: whole}
}

func plainClean(name string) impl.Cleaned { return plainFollowed(".", name) }

func plainWithin(from, name string) impl.Cleaned {
	stands := plainClean(from)
	if stands.Code != 0 {
		return impl.Cleaned{Code: 4}
	}
	return plainFollowed(path.Dir(stands.Name), name)
}

func plainTries(roots []string, from, name string) []string {
	if len(roots) > 8 {
		return nil
	}
	if first := strings.Split(name, "/")[0]; first == "." || first == ".." {
		if c := plainWithin(from, name); c.Code == 0 {
			return []string{c.Name}
		}
		return nil
	}
	alone := plainClean(name)
	if alone.Code != 0 {
		return nil
	}
	var tries []string
	for _, root := range roots {
		whole := alone.Name
		if root != "" {
			whole = root + "/" + alone.Name
		}
		c := plainClean(whole)
		if c.Code == 0 && !slices.Contains(tries, c.Name) {
			tries = append(tries, c.Name)
		}
	}
	return tries
}

// checkNames: Clean, Within and Tries answer what the plain ones answer, and leave the roots as they were.
func checkNames(t *testing.T, roots []string, from, name string) {
	t.Helper()
	if got, want := impl.Clean(name), plainClean(name); got != want {
		t.Errorf("Clean(%q) %v, want %v", name, got, want)
	}
	if got, want := impl.Within(from, name), plainWithin(from, name); got != want {
		t.Errorf("Within(%q, %q) %v, want %v", from, name, got, want)
	}
	before := slices.Clone(roots)
	if got, want := impl.Tries(roots, from, name), plainTries(roots, from, name); !slices.Equal(got, want) {
		t.Errorf("Tries(%q, %q, %q) %q, want %q", roots, from, name, got, want)
	}
	if !slices.Equal(roots, before) {
		t.Errorf("Tries(%q, %q, %q): the roots have changed", before, from, name)
	}
}

// bundleOf: names and texts of sources in turn.
func bundleOf(roots []string, namesAndTexts ...string) impl.Bundle {
	b := impl.Bundle{Roots: roots}
	for pair := range slices.Chunk(namesAndTexts, 2) {
		b.Sources = append(b.Sources, impl.Source{Name: pair[0], Text: pair[1]})
	}
	return b
}

func copiedBundle(b impl.Bundle) impl.Bundle {
	return impl.Bundle{Roots: slices.Clone(b.Roots), Sources: slices.Clone(b.Sources)}
}

func sameBundle(a, b impl.Bundle) bool {
	return slices.Equal(a.Roots, b.Roots) && slices.Equal(a.Sources, b.Sources)
}

// plainBundleOk: all faults of a bundle, of which the first one by the order of the list is given.
func plainBundleOk(b impl.Bundle) impl.BundleFault {
	var faults []impl.BundleFault
	tell := func(is bool, code, source, at int) {
		if is {
			faults = append(faults, impl.BundleFault{Code: code, Source: source, At: at})
		}
	}
	tell(len(b.Sources) < 1 || len(b.Sources) > 20 || len(b.Roots) > 8, 1, 0, 0)
	for _, root := range b.Roots {
		tell(root != "" && plainClean(root) != impl.Cleaned{Name: root}, 1, 0, 0)
	}
	for i, s := range b.Sources {
		tell(plainClean(s.Name) != impl.Cleaned{Name: s.Name}, 2, i, 0)
		for _, ahead := range b.Sources[:i] {
			tell(ahead.Name == s.Name, 2, i, 0)
		}
		p := impl.Parse(s.Text)
		tell(len(s.Text) > 20000 || p.Code == 2, 3, i, 0)
		tell(len(s.Text) <= 20000 && p.Code == 1, 4, i, p.At)
	}
	if len(faults) == 0 {
		return impl.BundleFault{}
	}
	return slices.MinFunc(faults, func(a, b impl.BundleFault) int {
		return cmp.Or(cmp.Compare(min(a.Code, 3), min(b.Code, 3)), cmp.Compare(a.Source, b.Source))
	})
}

func plainLeads(b impl.Bundle, from, name string) string {
	for _, try := range plainTries(b.Roots, from, name) {
		for _, s := range b.Sources {
			if s.Name == try {
				return try
			}
		}
	}
	return ""
}

// plainLed: the text of a source with its imports led, by the plain row of tokens, from the last one on.
func plainLed(b impl.Bundle, s impl.Source) string {
	row, _ := plainRow(s.Text)
	text := s.Text
	for i := len(row) - 1; i >= 2; i-- {
		if row[i].Kind == 4 && row[i-1].Kind == 40 && row[i-2].Kind == 1 && row[i-2].Text == "import" {
			text = text[:row[i].From] + `"` + plainLeads(b, s.Name, row[i].Text) + `"` + text[row[i].To:]
		}
	}
	return text
}

// plainLine: a line of a linked text, without its newline, and where it comes from.
type plainLine struct {
	text  string
	place impl.Place
}

// plainLines: the lines of what is linked when main leads to begin.
func plainLines(b impl.Bundle, begin string) []plainLine {
	var lines []plainLine
	own := func(text string) {
		lines = append(lines, plainLine{text, impl.Place{Source: -1, Line: len(lines) + 1}})
	}
	for line := range strings.Lines(houseOwn()) {
		own(strings.TrimSuffix(line, "\n"))
	}
	for i, s := range b.Sources {
		own(`house.mods["` + s.Name + `"] = fn(...) {`)
		for k, line := range strings.Split(plainLed(b, s), "\n") {
			lines = append(lines, plainLine{line, impl.Place{Source: i, Line: k + 1}})
		}
		own("}")
	}
	own(`house.main = "` + begin + `"`)
	own("house.loop()")
	return lines
}

func plainLinkText(b impl.Bundle, main string) string {
	begin := plainLeads(b, "main", main)
	if plainBundleOk(b).Code != 0 || begin == "" {
		return ""
	}
	var text strings.Builder
	for _, line := range plainLines(b, begin) {
		text.WriteString(line.text + "\n")
	}
	if text.Len() > 65536 {
		return ""
	}
	return text.String()
}

func plainPlaceOf(b impl.Bundle, line int) impl.Place {
	if plainBundleOk(b).Code != 0 || line < 1 {
		return impl.Place{Source: -1}
	}
	if lines := plainLines(b, "any"); line <= len(lines) {
		return lines[line-1].place
	}
	return impl.Place{Source: -1, Line: line}
}

// plainLink: what the chapters before answer of the plain linked text.
func plainLink(b impl.Bundle, main string) impl.Linked {
	if fault := plainBundleOk(b); fault.Code != 0 {
		return impl.Linked{Code: 1, Source: fault.Source}
	}
	if plainLeads(b, "main", main) == "" {
		return impl.Linked{Code: 2}
	}
	parsed := impl.Parse(plainLinkText(b, main))
	tree := impl.Grow(parsed.Sheet)
	bound := impl.Bind(tree)
	if plainLinkText(b, main) != "" && parsed.Code == 0 && bound.Code >= 2 && bound.Code <= 6 {
		place := plainPlaceOf(b, tree.Parts[bound.Part].Line)
		return impl.Linked{Code: bound.Code + 2, Source: place.Source, Line: place.Line}
	}
	compiled := impl.Compile(bound.Unit)
	if plainLinkText(b, main) == "" || parsed.Code+bound.Code+compiled.Code != 0 {
		return impl.Linked{Code: 3}
	}
	return impl.Linked{Unit: bound.Unit, Made: compiled.Made}
}

func linkedTold(l impl.Linked) string {
	return fmt.Sprintf("code %d source %d line %d, %d fns, %d protos", l.Code, l.Source, l.Line, len(l.Unit.Fns), len(l.Made.Protos))
}

// checkLinked: Link answers this, to the last field of its unit and its code.
func checkLinked(t *testing.T, told string, b impl.Bundle, main string, want impl.Linked) {
	t.Helper()
	got := impl.Link(b, main)
	wantTold(t, told, linkedTold(got), linkedTold(want))
	if !sameUnit(got.Unit, want.Unit) {
		t.Errorf("%s: another unit: %s, want %s", told, unitTold(got.Unit), unitTold(want.Unit))
	}
	if codeTold(got.Made) != codeTold(want.Made) {
		t.Errorf("%s: another code: %s, want %s", told, codeTold(got.Made), codeTold(want.Made))
	}
}

// checkBundle: all calls with this bundle, well made or not, answer what the plain ones answer, and leave it as it was.
func checkBundle(t *testing.T, told string, b impl.Bundle, mains ...string) {
	t.Helper()
	before := copiedBundle(b)
	if got, want := impl.BundleOk(b), plainBundleOk(b); got != want {
		t.Errorf("%s: BundleOk %v, want %v", told, got, want)
	}
	for _, main := range mains {
		wantTold(t, fmt.Sprintf("%s: LinkText with %q", told, main), fmt.Sprintf("%q", impl.LinkText(b, main)), fmt.Sprintf("%q", plainLinkText(b, main)))
		checkLinked(t, fmt.Sprintf("%s: Link with %q", told, main), b, main, plainLink(b, main))
	}
	if !sameBundle(b, before) {
		t.Errorf("%s: the bundle has changed", told)
	}
}

// checkPlaces: PlaceOf of every line of a linked text, and of lines around it, is what the plain list of lines has.
func checkPlaces(t *testing.T, told string, b impl.Bundle) {
	t.Helper()
	before := copiedBundle(b)
	lines := []int{leastInt, mostInt, 65537, 100001}
	for line := -2; line <= len(plainLines(b, ""))+3; line++ {
		lines = append(lines, line)
	}
	for _, line := range lines {
		if got, want := impl.PlaceOf(b, line), plainPlaceOf(b, line); got != want {
			t.Errorf("%s: PlaceOf line %d %v, want %v", told, line, got, want)
		}
	}
	if !sameBundle(b, before) {
		t.Errorf("%s: PlaceOf: the bundle has changed", told)
	}
}
