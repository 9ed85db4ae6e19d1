package tests

import (
	"fmt"
	"slices"
	"strings"
	"testing"

	"loop.example/heddle/impl"
)

// P13: what is told of each field of an answer, written out.
func TestTold(t *testing.T) {
	h := hostOf("a", lined("let x, y = \"a\\n\\\"b\\\"\", 2", "print(x)", "print(y, \"\\xff\")", "print()"))
	foreign := evText(impl.HCode, string(imageOf(t, "print(\"f\\t\")\nthrow \"off\\\\\"")))
	events := []impl.Event{evStop(onCall(2)), evStop(onLine(11, 74)), ev(impl.HBegin), ev(impl.HGo), ev(impl.HVars), evValue("x"), evValue("z"), evN(impl.HWhere, 0), evN(impl.HCount, 1), {}, foreign, ev(impl.HGo), ev(impl.HBegin), ev(impl.HLay), ev(impl.HLines)}
	told := impl.Told(h, events)
	want := lined(
		`0 0 29 0 ""`, `1 0 29 1 ""`, `2 0 36 0 ""`,
		`3 0 52 0 ""`, `says "a\n\"b\""`, `says "2 \xff"`,
		`4 0 52 0 ""`, `var x "a\n\"b\""`, `var y "2"`,
		`5 0 52 0 "a\n\"b\""`, `6 6 52 0 ""`,
		`7 0 52 0 ""`, "call 11 74 46", "call 2 13 36", "call 8 45 33", "call 10 62 26", "call 0 77 -1",
		`8 0 52 1 ""`, `9 1 52 0 ""`,
		`10 0 52 1 "off\\"`, `says "f\t"`,
		`11 0 60 0 ""`, `says ""`, `12 0 67 0 ""`, `13 0 67 1 ""`, `14 0 67 0 ""`, "line -1 1 1", "line -1 2 1") + "\n"
	if !strings.HasPrefix(told, want) {
		t.Errorf("%s, want %s", told, want)
	}
	if !strings.HasSuffix(told, lined("line -1 70 1", "line -1 76 1", "line -1 77 1", "line 0 1 1", "line 0 2 1", "line 0 3 1", "line 0 4 1")+"\n") {
		t.Errorf("%s", told)
	}
	checkPlay(t, "told", h, events...)
	if got := impl.Told(h, nil); got != "" {
		t.Errorf("no events: %q", got)
	}
	if got := impl.Told(h, slices.Repeat([]impl.Event{ev(impl.HGo)}, 61)); got != "" {
		t.Errorf("too many events: %q", got)
	}
}

// P13: long texts: as long as a string may be they are quoted, with every byte of them written with four.
func TestToldLong(t *testing.T) {
	h := hostOf("a", lined(`on("c", fn(x) {`, `	print(x)`, `})`))
	long := strings.Repeat("\xff", 4000)
	told := impl.Told(h, []impl.Event{ev(impl.HBegin), evStop(onLine(12, 72)), evSay("c", long), evValue("x"), ev(impl.HVars), ev(impl.HGo)})
	quoted := `"` + strings.Repeat(`\xff`, 4000) + `"`
	for _, line := range []string{"\n3 0 69 0 " + quoted + "\n", "\nvar x " + quoted + "\n", "\nsays " + quoted + "\n"} {
		if !strings.Contains(told, line) {
			t.Errorf("no line %s", shortly(line))
		}
	}
}

// P13: bundles that are not linked, whatever the events and the allowances are.
func TestToldNotLinked(t *testing.T) {
	for code, hosts := range unlinked() {
		for i, h := range hosts {
			l := impl.Link(h.Bundle, h.Main)
			want := fmt.Sprintf("not linked %d %d %d\n", code, l.Source, l.Line)
			for told, events := range map[string][]impl.Event{"no events": nil, "events": {ev(impl.HBegin), ev(impl.HLines)}, "too many": make([]impl.Event, 61)} {
				wantTold(t, fmt.Sprint("code ", code, ", host ", i, ", ", told), impl.Told(h, events), want)
				wantTold(t, fmt.Sprint("code ", code, ", host ", i, ", ", told, ", no allowances"), impl.Told(allowing(h, -1, 0, -1), events), want)
			}
		}
	}
	for text, want := range map[string]string{
		"\n\nq()": "not linked 4 0 3\n", "print(": "not linked 1 0 0\n", "x = 1": "not linked 4 0 1\n", "let a\nbreak": "not linked 6 0 2\n", strings.Repeat("{", 98) + strings.Repeat("}", 98): "not linked 3 0 0\n",
	} {
		wantTold(t, text, impl.Told(hostOf("a", text), nil), want)
	}
	astray := counterHost()
	astray.Main = "z"
	wantTold(t, "no main", impl.Told(astray, nil), "not linked 2 0 0\n")
}

// memoryOfAnswers: all texts of answers.
func memoryOfAnswers(answers []impl.Answered) []string {
	var texts []string
	for _, a := range answers {
		texts = append(append(texts, a.Text), a.Says...)
		for _, v := range a.Vars {
			texts = append(texts, v.Name, v.Text)
		}
	}
	return texts
}

// longish: those texts that are no words of the program itself.
func longish(texts []string) []string {
	return slices.DeleteFunc(slices.Clone(texts), func(s string) bool { return len(s) < 8 })
}

// P17: answers share nothing with what was asked, with one another, or with a second answer, and are the same again.
func TestPlayMemory(t *testing.T) {
	h := hostOf("a", lined(`on("channel", fn(message) {`, `	let variable = message`, `	print(message)`, `	print("a constant text", variable)`, `	print("a constant text")`, `})`))
	kept := []bool{true, false, true}
	image := string(imageOf(t, "print(\"a foreign text\")\nthrow \"a foreign error\""))
	events := []impl.Event{
		ev(impl.HBegin), evStop(onWatch(12, "variable")), evSay("channel", "a longish message"), ev(impl.HVars), evValue("message"), evN(impl.HWhere, 0), ev(impl.HLines), ev(impl.HLay), ev(impl.HGo), ev(impl.HTake), ev(impl.HVars), evN(impl.HWhere, 0), ev(impl.HGo),
		evText(impl.HInput, "a longish input"), evText(impl.HCode, image), {Op: impl.HCut, N: 1, Kept: kept}, ev(impl.HLines), ev(impl.HGo), {Op: impl.HValue, Name: "a name of nothing"},
	}
	bundle, given := copiedBundle(h.Bundle), copiedEvents(events)
	one, two := impl.Play(h, events), impl.Play(h, events)
	want := answersTold(one)
	told := impl.Told(h, events)
	texts := longish(memoryOfAnswers(one))
	asked := []string{h.Main}
	for _, s := range h.Bundle.Sources {
		asked = append(asked, s.Name, s.Text)
	}
	for _, e := range events {
		asked = append(asked, e.Name, e.Text, e.Stop.Name)
	}
	if len(texts) < 10 || sharedTexts(texts, asked) || sharedTexts(texts, longish(memoryOfAnswers(two))) {
		t.Errorf("texts are shared: %q", texts)
	}
	for i, text := range texts {
		if sharedTexts([]string{text}, texts[:i]) {
			t.Errorf("%q is in two answers", text)
		}
	}
	for i := range one {
		clear(one[i].Says)
		clear(one[i].Stack)
		clear(one[i].Vars)
		clear(one[i].Counts)
		checkShown(t, fmt.Sprint("the answers behind ", i), answersTold(one[i+1:]), want[i+1:])
	}
	checkShown(t, "a second answer", answersTold(two), want)
	checkShown(t, "a third answer", answersTold(impl.Play(h, events)), want)
	wantTold(t, "told again", impl.Told(h, events), told)
	if !sameBundle(h.Bundle, bundle) || !sameEvents(events, given) {
		t.Error("what was given has changed")
	}
	// What was asked with is written over: the answers stay.
	clear(h.Bundle.Sources)
	clear(kept)
	clear(events)
	checkShown(t, "behind other events", answersTold(two), want)
}
