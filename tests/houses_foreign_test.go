package tests

import (
	"fmt"
	"math/rand"
	"slices"
	"strings"
	"testing"

	"loop.example/heddle/impl"
)

// imageOf: the image of a text's code.
func imageOf(t *testing.T, text string) []byte {
	t.Helper()
	return impl.Encode(compiled(t, text, boundText(t, text)))
}

// checkForeign: what bytes are answered; a play that is given them as a text answers it too, but for its place.
func checkForeign(t *testing.T, told string, b []byte, in impl.Input, want string) {
	t.Helper()
	bytes, args, lines := slices.Clone(b), slices.Clone(in.Args), slices.Clone(in.Lines)
	a := impl.Foreign(b, in)
	wantTold(t, told, answerTold(a), want)
	wantTold(t, told+": by the chapters before", answerTold(plainForeign(b, in)), want)
	if a.Place != 0 {
		t.Errorf("%s: place %d", told, a.Place)
	}
	if !slices.Equal(b, bytes) || !slices.Equal(in.Args, args) || !slices.Equal(in.Lines, lines) {
		t.Errorf("%s: what was given has changed", told)
	}
	if len(in.Args)+len(in.Lines) == 0 && impl.InputOk(in) && len(b) <= impl.MaxText {
		h := allowing(hostOf("a", "print(1)"), in.Ticks, in.Depth, in.Cells)
		answers := impl.Play(h, []impl.Event{ev(impl.HGo), evText(impl.HCode, string(b)), ev(impl.HGo)})
		wantTold(t, told+": played", answerTold(answers[1]), want)
		if answers[1].Place != answers[0].Place || answers[2].Place != answers[0].Place {
			t.Errorf("%s: places %d, %d, %d", told, answers[0].Place, answers[1].Place, answers[2].Place)
		}
	}
}

// P12: bytes that are no image of a code.
func TestForeignNoCode(t *testing.T) {
	t.Parallel()
	image := imageOf(t, `print("a")`)
	none := map[string][]byte{
		"no bytes": nil, "an empty list": {}, "a word": []byte("no code"), "a head": []byte("HC\x01"), "another head": slices.Concat([]byte("HC\x02"), image[3:]), "a journal": impl.JournalImage(impl.Journal{}),
		"a byte more": append(slices.Clone(image), 0), "a text": []byte(`print("a")`), "no protos": []byte("HC\x01\x00"), "very many protos": []byte("HC\x01\xff\xff\xff\xff\x0f"), "too long": make([]byte, 1000001),
	}
	for n := range image {
		none[fmt.Sprint("cut off at ", n)] = image[:n]
	}
	for told, b := range none {
		checkForeign(t, told, b, plenty(), "code 10 num 1")
		checkForeign(t, told+", and no input", b, impl.Input{}, "code 10 num 1")
	}
	for told, c := range wrongShapes() {
		checkForeign(t, told+", as it stands", plainImage(c), plenty(), "code 10 num 1")
	}
}

// P12: codes of the right shape that the verifier refuses, for each of its codes.
func TestForeignNotVerified(t *testing.T) {
	met := map[int]int{}
	for told, c := range notVerified(t) {
		fault := impl.CheckCode(c)
		if impl.CheckShape(c).Code != 0 {
			continue
		}
		met[fault.Code]++
		checkForeign(t, told, impl.Encode(c), plenty(), fmt.Sprint("code 10 num ", fault.Code))
		checkForeign(t, told+", and no input", impl.Encode(c), impl.Input{Depth: 61}, fmt.Sprint("code 10 num ", fault.Code))
	}
	for code := 10; code <= 14; code++ {
		if met[code] == 0 {
			t.Errorf("no code %d", code)
		}
	}
}

// P12: codes that the verifier lets through: which end, give values, are left by an error, use up their ticks.
func TestForeignRuns(t *testing.T) {
	t.Parallel()
	for text, want := range map[string]string{
		"":                                     "code 0",
		`print("a")`:                           `code 0 says ["a"]`,
		"print(1, nil)\nprint()\nprint(\"\")":  `code 0 says ["1 nil" "" ""]`,
		"return 1, 2":                          "code 0",
		"print(1)\nthrow \"off\"":              `code 0 num 1 text "off" says ["1"]`,
		"print(1)()":                           `code 0 num 1 text "error 6" says ["1"]`,
		"throw {.code = 7}":                    `code 0 num 1 text "error 7"`,
		"throw nil":                            `code 0 num 1 text "nil"`,
		"throw \"\"":                           "code 0 num 1",
		"try {throw 1} catch e {print(e)}":     `code 0 says ["1"]`,
		"print(read(), read(), ...)":           `code 0 says ["nil nil"]`,
		"print(\"on\")\nwhile true {}":         `code 0 num 2 says ["on"]`,
		"fn f() {f()}\nf()":                    `code 0 num 1 text "error 8"`,
		"print(resume(task(fn() {throw 5})))":  `code 0 says ["false 5 fn:1"]`,
		"setkind({}, {.last = print})":         "code 0",
		"let t = {}\nfor i = 1, 9 {t[i] = {}}": "code 0",
	} {
		checkForeign(t, text, imageOf(t, text), plenty(), want)
	}
	few := impl.Input{Ticks: 5, Depth: 2, Cells: 3}
	checkForeign(t, "few ticks", imageOf(t, "print(1)\nprint(2)\nprint(3)"), few, `code 0 num 2 says ["1" "2"]`)
	checkForeign(t, "no ticks", imageOf(t, "print(1)"), impl.Input{Depth: 1}, "code 0 num 2")
	checkForeign(t, "no ticks, nothing to do", imageOf(t, ""), impl.Input{Depth: 1}, "code 0")
	checkForeign(t, "few cells", imageOf(t, "let a = {{}, {}}"), few, `code 0 num 1 text "error 9"`)
	checkForeign(t, "little depth", imageOf(t, "(fn() {(fn() {})()})()"), few, `code 0 num 1 text "error 8"`)
	told := impl.Input{Args: []string{"x", "y"}, Lines: []string{"one", "two"}, Ticks: 100, Depth: 5, Cells: 5}
	checkForeign(t, "arguments and lines", imageOf(t, "print(...)\nprint(read())\nprint(read())\nprint(read())"), told, `code 0 says ["x y" "one" "two" "nil"]`)
	checkForeign(t, "a house", impl.Encode(impl.Link(counterHost().Bundle, "a").Made), impl.Input{Lines: words("begin say c hi"), Ticks: 500, Depth: 20, Cells: 500}, `code 0 says ["once" "7" "1 hi"]`)
	long := strings.Repeat("x", 4000)
	checkForeign(t, "long texts", imageOf(t, `print("`+long+`"); throw "`+long+`"`), plenty(), fmt.Sprintf(`code 0 num 1 text %q says [%q]`, long, long))
}

// P12: inputs that are not valid, and those at the same limits that are.
func TestForeignInputs(t *testing.T) {
	image := imageOf(t, `print("a")`)
	many, long := make([]string, 201), []string{strings.Repeat("x", 4001)}
	for told, in := range map[string]impl.Input{
		"nothing": {}, "ticks below 0": {Ticks: -1, Depth: 1, Cells: 1}, "ticks 5001": {Ticks: 5001, Depth: 1}, "depth 0": {Ticks: 9}, "depth 61": {Ticks: 9, Depth: 61}, "cells below 0": {Ticks: 9, Depth: 1, Cells: -1}, "cells 20001": {Ticks: 9, Depth: 1, Cells: 20001},
		"many lines": {Lines: many, Ticks: 9, Depth: 1}, "many arguments": {Args: many, Ticks: 9, Depth: 1}, "a long line": {Lines: long, Ticks: 9, Depth: 1}, "a long argument": {Args: long, Ticks: 9, Depth: 1},
	} {
		checkForeign(t, told, image, in, "code 11")
		checkForeign(t, told+", and no code", image[1:], in, "code 10 num 1")
	}
	for told, in := range map[string]impl.Input{
		"most of all": {Args: many[1:], Lines: many[1:], Ticks: 5000, Depth: 60, Cells: 20000}, "long texts": {Args: []string{long[0][1:]}, Lines: []string{long[0][1:]}, Ticks: 9, Depth: 1}, "least of all": {Ticks: 2, Depth: 1},
	} {
		checkForeign(t, told, image, in, `code 0 says ["a"]`)
	}
}

// P12: images by chance, some with a byte changed: refused, or run as plain stepping runs them.
func TestForeignByChance(t *testing.T) {
	t.Parallel()
	rng := rand.New(rand.NewSource(203))
	codes := map[int]int{}
	for n := range 240 {
		c, _ := compiledByChance(rng.Int63())
		image := impl.Encode(c)
		in := impl.Input{Ticks: rng.Intn(400), Depth: 1 + rng.Intn(20), Cells: rng.Intn(300), Lines: []string{"x"}}
		if n%3 > 0 && len(image) > 0 {
			image = slices.Clone(image)
			image[rng.Intn(len(image))] ^= byte(1 << rng.Intn(8))
		}
		a := impl.Foreign(image, in)
		codes[a.Code]++
		wantTold(t, fmt.Sprint("code ", n), answerTold(a), answerTold(plainForeign(image, in)))
	}
	if codes[0] < 60 || codes[10] < 30 {
		t.Errorf("too few of a sort: %v", codes)
	}
}

// P17: what foreign code says is new memory, and the same again.
func TestForeignMemory(t *testing.T) {
	image := imageOf(t, "print(\"a longish text\")\nprint(...)\nprint(read())\nthrow \"another text\"")
	in := impl.Input{Args: []string{"an argument"}, Lines: []string{"a line"}, Ticks: 50, Depth: 5, Cells: 9}
	one, two := impl.Foreign(image, in), impl.Foreign(image, in)
	want := answerTold(one)
	if len(one.Says) != 3 || sharedTexts(one.Says, append(in.Args, in.Lines...)) || sharedTexts(one.Says, two.Says) || sharesText(one.Text, two.Text) {
		t.Errorf("texts are shared: %s", want)
	}
	clear(one.Says)
	wantTold(t, "a second answer", answerTold(two), want)
	wantTold(t, "a third answer", answerTold(impl.Foreign(image, in)), want)
	clear(image)
	wantTold(t, "behind other bytes", answerTold(two), want)
}
