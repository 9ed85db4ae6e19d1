package tests

import (
	"fmt"
	"math/rand"
	"slices"
	"strings"
	"testing"

	"loop.example/heddle/impl"
)

func TestParseSpreadSheets(t *testing.T) {
	r := rand.New(rand.NewSource(11))
	for _, s := range grownSheets(5, 1200) {
		text, want := spreadOf(s, r).laid()
		p := impl.Parse(text)
		if p.Code != 0 || p.At != 0 || !sameSheet(p.Sheet, want) {
			t.Fatalf("%q: code %d at %d\n%s, want\n%s", text, p.Code, p.At, formsTold(p.Sheet), formsTold(want))
		}
		if c := chartOf(text); c == nil || !c.can(impl.TEnd) {
			t.Fatalf("%q: the rows as the tests have them do not allow it", text)
		}
	}
}

func TestParseStatements(t *testing.T) {
	for text, want := range map[string]string{
		"let a":                     "2:0-5 1:0-5",
		" let a , b ":               "2:1-10 1:0-11",
		"let a = 1":                 "23:8-9 2:0-9 1:0-9",
		"let a, b = 1, 2":           "23:11-12 23:14-15 2:0-15 1:0-15",
		"const A = x":               "26:10-11 3:0-11 1:0-11",
		"fn f() {}":                 "1:7-9 36:4-9 4:0-9 1:0-9",
		"fn f(a, ...) {}":           "1:13-15 36:4-15 4:0-15 1:0-15",
		"if a {}":                   "26:3-4 1:5-7 7:0-7 1:0-7",
		"if a {} else {}":           "26:3-4 1:5-7 1:13-15 7:0-15 1:0-15",
		"if a {} elif b {}":         "26:3-4 1:5-7 26:13-14 1:15-17 7:8-17 7:0-17 1:0-17",
		"if a {} elif b {} else {}": "26:3-4 1:5-7 26:13-14 1:15-17 1:23-25 7:8-25 7:0-25 1:0-25",
		"while a {}":                "26:6-7 1:8-10 8:0-10 1:0-10",
		"for i = 1, 2 {}":           "23:8-9 23:11-12 1:13-15 9:0-15 1:0-15",
		"for i = 1, 2, 3 {}":        "23:8-9 23:11-12 23:14-15 1:16-18 9:0-18 1:0-18",
		"for k in t {}":             "26:9-10 1:11-13 10:0-13 1:0-13",
		"for k, v in t {}":          "26:12-13 1:14-16 10:0-16 1:0-16",
		"break":                     "11:0-5 1:0-5",
		"next":                      "12:0-4 1:0-4",
		"return":                    "13:0-6 1:0-6",
		"return ;":                  "13:0-6 1:0-8",
		"return a, b":               "26:7-8 26:10-11 13:0-11 1:0-11",
		"try {} catch e {}":         "1:4-6 1:15-17 14:0-17 1:0-17",
		"try {} catch e, g {}":      "1:4-6 1:18-20 14:0-20 1:0-20",
		"throw 1":                   "23:6-7 15:0-7 1:0-7",
		"defer f()":                 "26:6-7 34:6-9 16:0-9 1:0-9",
		"defer (f)()":               "26:7-8 34:6-11 16:0-11 1:0-11",
		"{}":                        "1:0-2 1:0-2",
		"{ f() ; }":                 "26:2-3 34:2-5 6:2-5 1:0-9 1:0-9",
		"{{}}":                      "1:1-3 1:0-4 1:0-4",
		"x = 1":                     "26:0-1 23:4-5 5:0-5 1:0-5",
		"x, y = 1, 2":               "26:0-1 26:3-4 23:7-8 23:10-11 5:0-11 1:0-11",
		"x.y, z[1] = 2":             "26:0-1 33:0-3 26:5-6 23:7-8 32:5-9 23:12-13 5:0-13 1:0-13",
		"(a).b = 1":                 "26:1-2 33:0-5 23:8-9 5:0-9 1:0-9",
		"f().x = 1":                 "26:0-1 34:0-3 33:0-5 23:8-9 5:0-9 1:0-9",
		"f()":                       "26:0-1 34:0-3 6:0-3 1:0-3",
		"f(1, 2)":                   "26:0-1 23:2-3 23:5-6 34:0-7 6:0-7 1:0-7",
		"a.b[c](1)()":               "26:0-1 33:0-3 26:4-5 32:0-6 23:7-8 34:0-9 34:0-11 6:0-11 1:0-11",
		"(f)()":                     "26:1-2 34:0-5 6:0-5 1:0-5",
		"a() ; b()":                 "26:0-1 34:0-3 6:0-3 26:6-7 34:6-9 6:6-9 1:0-9",
	} {
		checkForms(t, text, want)
		checkText(t, text)
	}
}

func TestParseExpressions(t *testing.T) {
	for text, want := range map[string]string{
		"nil": "20:6-9", "true": "21:6-10", "false": "22:6-11", "10": "23:6-8", "0x1f": "23:6-10", "1.5e3": "24:6-11", `"q"`: "25:6-9",
		"name": "26:6-10", "...": "27:6-9", "not a": "26:10-11 30:6-11", "-a": "26:7-8 30:6-8", "#a": "26:7-8 30:6-8", "~a": "26:7-8 30:6-8",
		"a and b":            "26:6-7 26:12-13 28:6-13",
		"a or b":             "26:6-7 26:11-12 29:6-12",
		"a + b":              "26:6-7 26:10-11 31:6-11",
		"a.b":                "26:6-7 33:6-9",
		"a[b]":               "26:6-7 26:8-9 32:6-10",
		"a(b)":               "26:6-7 26:8-9 34:6-10",
		"a()":                "26:6-7 34:6-9",
		"{}":                 "35:6-8",
		"{a}":                "26:7-8 40:7-8 35:6-9",
		"{a,}":               "26:7-8 40:7-8 35:6-10",
		"{[a] = b}":          "26:8-9 26:13-14 41:7-14 35:6-15",
		"{.a = b, c}":        "26:12-13 42:7-13 26:15-16 40:15-16 35:6-17",
		"fn() {}":            "1:11-13 36:6-13",
		"fn(a, b) {}":        "1:15-17 36:6-17",
		"fn(...) {}":         "1:14-16 36:6-16",
		"(a)":                "26:7-8",
		"((a))":              "26:8-9",
		"(f())":              "26:7-8 34:7-10 37:6-11",
		"((f()))":            "26:8-9 34:8-11 37:7-12",
		"(...)":              "27:7-10 37:6-11",
		"(f())()":            "26:7-8 34:7-10 37:6-11 34:6-13",
		"(...).x":            "27:7-10 37:6-11 33:6-13",
		"(f()).x":            "26:7-8 34:7-10 37:6-11 33:6-13",
		"(f().x)":            "26:7-8 34:7-10 33:7-12",
		"(a) + (b)":          "26:7-8 26:13-14 31:6-15",
		"-(a)":               "26:8-9 30:6-10",
		"(-(a))[(b)]":        "26:9-10 30:7-11 26:14-15 32:6-17",
		"f((a), (b))":        "26:6-7 26:9-10 26:14-15 34:6-17",
		"{(a), [(b)] = (c)}": "26:8-9 40:7-10 26:14-15 26:21-22 41:12-23 35:6-24",
		"(5).x":              "23:7-8 33:6-11",
		"({}).x":             "35:7-9 33:6-12",
		"(fn() {})()":        "1:12-14 36:7-14 34:6-17",
	} {
		text := "throw " + text
		checkText(t, text)
		checkForms(t, text, fmt.Sprintf("%s 15:0-%d 1:0-%d", want, len(text), len(text)))
	}
}

func TestParseLines(t *testing.T) {
	for text, want := range map[string]string{
		"\nx = (a) ..\n (f())":        "26:1-2/2 26:6-7/2 26:14-15/3 34:14-17/3 37:13-18/3 31:5-18/2 5:1-18/2 1:0-18",
		"\n\nif\na\n{\n}\n":           "26:5-6/4 1:7-10/5 7:2-10/3 1:0-11",
		"--\nfn\nf\n(\n)\n{\n}":       "1:12-15/6 36:8-15/4 4:3-15/2 1:0-15",
		"throw\n(\n(\na\n)\n)+\nb":    "26:10-11/4 26:17-18/7 31:6-18/2 15:0-18 1:0-18",
		"x = \"\\n\" ; y = \n\"--\"":  "26:0-1 25:4-8 5:0-8 26:11-12 25:16-20/2 5:11-20 1:0-20",
		"try{}\ncatch\ne\n,\ng\n{\n}": "1:3-5 1:18-21/6 14:0-21 1:0-21",
	} {
		checkForms(t, text, want)
	}
}

func TestParseNothing(t *testing.T) {
	for _, text := range []string{"", " ", "\n", "\t\r \n", ";", ";;", ";\n;\n", "--", "-- r", "-- r\n", "\n-- r\n;--", "  ;  \r"} {
		checkForms(t, text, fmt.Sprintf("1:0-%d", len(text)))
		checkText(t, text)
	}
}

// TestParseFields: what the forms hold beside their places.
func TestParseFields(t *testing.T) {
	for text, want := range map[string]string{
		"let a, b = 0x10":              `23 11 15 1 0 16 "" 0 0` + "\n" + `2 0 15 1 0 0 "" 2 a b 1 0`,
		"x, y = 1.50e1":                `26 0 1 1 0 0 "x" 0 0` + "\n" + `26 3 4 1 0 0 "y" 0 0` + "\n" + `24 7 13 1 0 0 "1.50e1" 0 0` + "\n" + `5 0 13 1 0 2 "" 0 3 0 1 2`,
		"throw 0xffffffffffffffff":     `23 6 24 1 0 -1 "" 0 0` + "\n" + `15 0 24 1 0 0 "" 0 1 0`,
		`throw "a\n\x07"`:              `25 6 15 1 0 0 "a\n\x07" 0 0` + "\n" + `15 0 15 1 0 0 "" 0 1 0`,
		"throw 9223372036854775808":    `24 6 25 1 0 0 "9223372036854775808" 0 0` + "\n" + `15 0 25 1 0 0 "" 0 1 0`,
		"fn f(a, b, ...) {}":           `1 16 18 1 0 0 "" 0 0` + "\n" + `36 4 18 1 1 0 "" 2 a b 1 0` + "\n" + `4 0 18 1 0 0 "" 1 f 1 1`,
		"throw fn(...) {}":             `1 14 16 1 0 0 "" 0 0` + "\n" + `36 6 16 1 1 0 "" 0 1 0` + "\n" + `15 0 16 1 0 0 "" 0 1 1`,
		"for i, i in {} {}":            `35 12 14 1 0 0 "" 0 0` + "\n" + `1 15 17 1 0 0 "" 0 0` + "\n" + `10 0 17 1 0 0 "" 2 i i 2 0 1`,
		"throw {.a = nil}":             `20 12 15 1 0 0 "" 0 0` + "\n" + `42 7 15 1 0 0 "a" 0 1 0` + "\n" + `35 6 16 1 0 0 "" 0 1 1` + "\n" + `15 0 16 1 0 0 "" 0 1 2`,
		"try {} catch e, g { return }": `1 4 6 1 0 0 "" 0 0` + "\n" + `13 20 26 1 0 0 "" 0 0` + "\n" + `1 18 28 1 0 0 "" 0 1 1` + "\n" + `14 0 28 1 0 0 "" 2 e g 2 0 2`,
	} {
		got := impl.Dump(impl.Parse(text).Sheet)
		lines := strings.Split(got, "\n")
		if got = strings.Join(lines[:max(0, len(lines)-2)], "\n"); got != want {
			t.Errorf("%q:\n%s\nwant\n%s", text, got, want)
		}
	}
}

// infixTexts: all infixes; prefixTexts: all prefixes.
func infixTexts() []string {
	var infixes []string
	for infix := range plainPowers {
		infixes = append(infixes, infix)
	}
	slices.Sort(infixes)
	return infixes
}

var prefixTexts = []string{"not", "-", "#", "~"}

func TestParsePowers(t *testing.T) {
	for _, one := range infixTexts() {
		for _, two := range infixTexts() {
			left, right := fmt.Sprintf("x = (a %s b) %s c", one, two), fmt.Sprintf("x = a %s (b %s c)", one, two)
			want := left
			if plainPowers[two] > plainPowers[one] || one == ".." && two == ".." {
				want = right
			}
			checkSame(t, fmt.Sprintf("x = a %s b %s c", one, two), want)
			checkSame(t, fmt.Sprintf("f(a %s\nb\n%s c)", one, two), "f("+want[len("x = "):]+")")
			if bareTold(left) == bareTold(right) {
				t.Errorf("%s and %s: parentheses change nothing", one, two)
			}
		}
	}
}

func TestParsePrefixes(t *testing.T) {
	for _, prefix := range prefixTexts {
		for _, infix := range infixTexts() {
			checkSame(t, fmt.Sprintf("x = %s a %s b", prefix, infix), fmt.Sprintf("x = (%s a) %s b", prefix, infix))
			checkSame(t, fmt.Sprintf("x = a %s %s b", infix, prefix), fmt.Sprintf("x = a %s (%s b)", infix, prefix))
			checkSame(t, fmt.Sprintf("x = a * %s b %s c", prefix, infix), fmt.Sprintf("x = a * (%s b) %s c", prefix, infix))
			checkSame(t, fmt.Sprintf("x = a %s %s b or c", infix, prefix), fmt.Sprintf("x = a %s (%s b) or c", infix, prefix))
		}
		for _, inner := range prefixTexts {
			checkSame(t, fmt.Sprintf("x = %s %s a", prefix, inner), fmt.Sprintf("x = %s (%s a)", prefix, inner))
		}
		checkSame(t, fmt.Sprintf("x = %s a.b[c](d)", prefix), fmt.Sprintf("x = %s ((a.b)[c])(d)", prefix))
	}
}

// exprPlaces: places where an expression stands between others of its statement; operandPlaces: those where an infix or suffix stands beside it.
var (
	exprPlaces = []string{
		"let a = %s", "let a = b, %s, c", "const A = %s", "if %s {}", "if a {} elif %s {}", "while %s {}", "for i = %s, 1 {}", "for i = 1, %s {}",
		"for i = 1, 2, %s {}", "for k in %s {}", "return %s", "return a, %s", "throw %s", "x = %s", "x, y = a, %s", "x[%s] = 1", "f(%s)",
		"f(a, %s)", "x = {%s}", "x = {a, %s,}", "x = {[%s] = a}", "x = {[a] = %s}", "x = {.a = %s}", "x = (%s).y", "(%s).y = 1", "(%s)()", "x = fn() { return %s }",
		"defer (%s)()", "defer f(%s)",
	}
	operandPlaces = []string{"x = %s + a", "x = a .. %s", "x = not %s", "x = - %s", "x = %s and a or %s"}
)

func TestParseParentheses(t *testing.T) {
	simple := []string{"nil", "true", "false", "7", "1.5", `"q"`, "a", "a.b", "a[1]", "f().x", "{}", "{1, .b = 2}", "fn() { return 1 }", "(f())", "(...)"}
	binding := []string{"not a", "-a", "- -a", "#a", "a and b", "a or b", "a + b * c", "a .. b .. c", "a == b"}
	for _, e := range append(simple, binding...) {
		for _, place := range exprPlaces {
			checkSame(t, fmt.Sprintf(place, e), fmt.Sprintf(place, "("+e+")"))
			checkSame(t, fmt.Sprintf(place, e), fmt.Sprintf(place, "(\n( "+e+")\n)"))
		}
	}
	for _, e := range simple {
		for _, place := range operandPlaces {
			checkSame(t, strings.ReplaceAll(place, "%s", e), strings.ReplaceAll(place, "%s", "("+e+")"))
			checkSame(t, strings.ReplaceAll(place, "%s", e), strings.ReplaceAll(place, "%s", "(("+e+"))"))
		}
	}
}

func countKind(s impl.Sheet, kind int) int {
	count := 0
	for _, f := range s.Forms {
		if f.Kind == kind {
			count++
		}
	}
	return count
}

func TestParseOnes(t *testing.T) {
	for _, e := range []string{"f()", "f(1, 2)", "a.b()", "f()()", "(f())()", "..."} {
		for _, place := range append(exprPlaces, operandPlaces[:4]...) {
			bare, one := impl.Parse(fmt.Sprintf(place, e)).Sheet, impl.Parse(fmt.Sprintf(place, "("+e+")")).Sheet
			want := countKind(bare, impl.EOne) + 1
			if strings.Contains(place, "(%s).") || strings.Contains(place, "(%s)()") {
				want--
			}
			if got := countKind(one, impl.EOne); got != want {
				t.Errorf(place+": %d EOne, want %d", "("+e+")", got, want)
			}
			checkSame(t, fmt.Sprintf(place, "("+e+")"), fmt.Sprintf(place, "(("+e+"))"))
		}
	}
}
