package tests

import (
	"fmt"
	"slices"
	"strings"
	"testing"

	"loop.example/heddle/impl"
)

// checkAnswerPlaces: the places of answers.
func checkAnswerPlaces(t *testing.T, told string, answers []impl.Answered, want ...int) {
	t.Helper()
	var got []int
	for _, a := range answers {
		got = append(got, a.Place)
	}
	if !slices.Equal(got, want) {
		t.Errorf("%s: places %v, want %v", told, got, want)
	}
}

// checkNoPlay: there are no answers.
func checkNoPlay(t *testing.T, told string, h impl.Hosted, events ...impl.Event) {
	t.Helper()
	if got := checkPlay(t, told, h, events...); len(got) > 0 {
		t.Errorf("%s: %d answers", told, len(got))
	}
}

// P13: what is said, where the house stands behind each event, and that it goes on where it was.
func TestPlay(t *testing.T) {
	events := []impl.Event{ev(impl.HBegin), evSay("c", "x"), ev(impl.HTime), evSay("d", "y"), evText(impl.HInput, "in"), evSay("c", ""), evN(impl.HTime, 2), ev(impl.HBegin)}
	a := checkAnswers(t, "counter", counterHost(), events,
		`code 0 says ["once" "7"]`, `code 0 says ["1 x"]`, "code 0", `code 0 says ["nobody hears d"]`, "code 0", `code 0 says ["2 "]`, "code 0", "code 0")
	checkAnswerPlaces(t, "counter", a, 79, 97, 97, 107, 113, 131, 147, 161)
	a = checkAnswers(t, "without a begin", counterHost(), []impl.Event{ev(impl.HGo), evSay("c", "x"), ev(impl.HBegin)}, "code 0", `code 0 says ["nobody hears c"]`, `code 0 says ["once" "7"]`)
	checkAnswerPlaces(t, "without a begin", a, 30, 40, 89)
}

// P13: no events, as many as there may be, and one more.
func TestPlayMostEvents(t *testing.T) {
	t.Parallel()
	h := counterHost()
	checkNoPlay(t, "no events", h)
	for count, want := range map[int]int{1: 1, 59: 59, 60: 60, 61: 0, 62: 0, 500: 0} {
		events := slices.Repeat([]impl.Event{evN(impl.HTime, 1)}, count)
		if got := checkPlay(t, fmt.Sprint(count, " events"), h, events...); len(got) != want {
			t.Errorf("%d events: %d answers", count, len(got))
		}
		// Events that are none count as well.
		if got := checkPlay(t, fmt.Sprint(count, " that are none"), h, make([]impl.Event, count)...); len(got) != want {
			t.Errorf("%d events that are none: %d answers", count, len(got))
		}
	}
}

// P13: bundles that can't be linked, for each Code of Link, and allowances that are not valid: no answers.
func TestPlayWrongHosts(t *testing.T) {
	t.Parallel()
	for code, hosts := range unlinked() {
		for i, h := range hosts {
			told := fmt.Sprint("code ", code, ", host ", i)
			checkNoPlay(t, told, h)
			checkNoPlay(t, told, h, ev(impl.HBegin))
			checkNoPlay(t, told, impl.Hosted{Bundle: h.Bundle, Main: h.Main}, ev(impl.HBegin))
			if l := impl.Link(h.Bundle, h.Main); !strings.HasPrefix(impl.Told(h, nil), fmt.Sprintf("not linked %d %d %d\n", code, l.Source, l.Line)) {
				t.Errorf("%s: %q", told, impl.Told(h, nil))
			}
		}
	}
	h := counterHost()
	for told, wrong := range map[string]impl.Hosted{
		"nothing allowed": allowing(h, 0, 0, 0), "ticks -1": allowing(h, -1, 60, 20000), "ticks 5001": allowing(h, 5001, 60, 20000), "depth 0": allowing(h, 5000, 0, 20000), "depth -1": allowing(h, 5000, -1, 20000), "depth 61": allowing(h, 5000, 61, 20000),
		"cells -1": allowing(h, 5000, 60, -1), "cells 20001": allowing(h, 5000, 60, 20001), "the least": allowing(h, leastInt, leastInt, leastInt), "the most": allowing(h, mostInt, mostInt, mostInt),
	} {
		checkNoPlay(t, told, wrong, ev(impl.HBegin), ev(impl.HGo))
		if got := impl.Told(wrong, []impl.Event{ev(impl.HBegin)}); got != "" {
			t.Errorf("%s: %q", told, got)
		}
	}
	for told, right := range map[string]impl.Hosted{
		"no ticks": allowing(h, 0, 60, 20000), "most ticks": allowing(h, 5000, 60, 20000), "least depth": allowing(h, 5000, 1, 20000), "no cells": allowing(h, 5000, 60, 0), "least of all": allowing(h, 0, 1, 0),
	} {
		if got := checkPlay(t, told, right, ev(impl.HBegin), ev(impl.HGo)); len(got) != 2 {
			t.Errorf("%s: %d answers", told, len(got))
		}
	}
}

// P13: events that are none, between others: Code 1 and the place, and nothing else comes of them.
func TestPlayNoEvents(t *testing.T) {
	t.Parallel()
	h := counterHost()
	none := []impl.Event{{}, {Op: -1}, {Op: 22}, {Op: impl.HBegin, N: 1}, {Op: impl.HInput, Text: strings.Repeat("x", 4001)}, {Op: impl.HTime, N: 51}, {Op: impl.HTime, N: -1}, {Op: impl.HSay, Name: "c", M: 1}, {Op: impl.HPace, N: 1001}, {Op: impl.HStop}, {Op: impl.HStop, Stop: impl.Stop{Kind: 5}},
		{Op: impl.HClear, N: 20}, {Op: impl.HClear, N: -1}, {Op: impl.HGo, Text: "x"}, {Op: impl.HInto, N: 1}, {Op: impl.HOver, Kept: []bool{true}}, {Op: impl.HOut, Name: "x"}, {Op: impl.HWhere, N: 100}, {Op: impl.HWhere, N: -1}, {Op: impl.HVars, Name: "n"}, {Op: impl.HValue}, {Op: impl.HValue, Name: strings.Repeat("n", 41)},
		{Op: impl.HCount, N: 20}, {Op: impl.HLay, N: 1}, {Op: impl.HCut, N: 201}, {Op: impl.HCut, Kept: make([]bool, 201)}, {Op: impl.HTake, N: 1}, {Op: impl.HSpoil, M: 0}, {Op: impl.HSpoil, M: 256}, {Op: impl.HSpoil, N: 258 * 64, M: 1}, {Op: impl.HCode, Text: strings.Repeat("x", 65537)}, {Op: impl.HLines, N: 1}}
	alone := impl.Play(h, []impl.Event{ev(impl.HBegin), evSay("c", "x"), ev(impl.HLay), ev(impl.HLines)})
	for _, e := range none {
		told := eventTold(e)
		a := checkPlay(t, told, h, e, ev(impl.HBegin), e, evSay("c", "x"), e, ev(impl.HLay), e, ev(impl.HLines), e)
		for i, k := range []int{1, 3, 5, 7} {
			wantTold(t, told, answerTold(a[k]), answerTold(alone[i]))
			wantTold(t, told+", ahead", answerTold(a[k-1]), "code 1")
		}
		checkAnswerPlaces(t, told, a, 30, 79, 79, 97, 97, 97, 97, 97, 97)
	}
	// A place that is not behind all is told with Code 1 too.
	a := checkAnswers(t, "at a stop", h, []impl.Event{ev(impl.HBegin), evStop(onCall(12)), evSay("c", "x"), {Op: impl.HGo, N: 1}}, `code 0 says ["once" "7"]`, "code 0", "code 0", "code 1")
	checkAnswerPlaces(t, "at a stop", a, 79, 79, 90, 90)
}

// P13: Code 3 for all that comes from outside while the house does not stand behind all; nothing comes of it.
func TestPlayNotBehindAll(t *testing.T) {
	stimuli := []impl.Event{ev(impl.HBegin), evText(impl.HInput, "x"), evN(impl.HTime, 3), ev(impl.HTime), evSay("c", "y")}
	events := slices.Concat([]impl.Event{ev(impl.HBegin), evStop(onLine(12, 74)), evSay("c", "x")}, stimuli, []impl.Event{ev(impl.HGo)}, stimuli)
	a := checkAnswers(t, "stopped", counterHost(), events, `code 0 says ["once" "7"]`, "code 0", "code 0", "code 3", "code 3", "code 3", "code 3", "code 3", `code 0 says ["1 x"]`, "code 0", "code 0", "code 0", "code 0", "code 0")
	checkAnswerPlaces(t, "stopped", a, 79, 79, 92, 92, 92, 92, 92, 92, 97, 111, 117, 141, 141, 154)
	// At the last moment, at which the house waits, it is not behind all either.
	a = checkAnswers(t, "at the last moment", counterHost(), slices.Concat([]impl.Event{evStop(onLine(10, 60)), ev(impl.HBegin)}, stimuli, []impl.Event{ev(impl.HGo), ev(impl.HGo), evSay("c", "x"), ev(impl.HGo)}),
		"code 0", `code 0 says ["once" "7"]`, "code 3", "code 3", "code 3", "code 3", "code 3", "code 0", "code 0", `code 0 says ["1 x"]`, "code 0")
	checkAnswerPlaces(t, "at the last moment", a, 30, 78, 78, 78, 78, 78, 78, 79, 79, 96, 97)
}

// P13: as many lines as may be read, and more by one; Code 3 comes ahead of Code 4.
func TestPlayMostLines(t *testing.T) {
	t.Parallel()
	h := hostOf("a", "on(\"c\", fn(x) {print(x, now())})")
	full := []impl.Event{ev(impl.HBegin), evN(impl.HTime, 50), evN(impl.HTime, 50), evN(impl.HTime, 50), evN(impl.HTime, 46), evSay("c", "x")}
	want := []string{"code 0", "code 0", "code 0", "code 0", "code 0", `code 0 says ["x 196"]`}
	more := []impl.Event{ev(impl.HBegin), evText(impl.HInput, ""), evN(impl.HTime, 1), evN(impl.HTime, 50), evSay("c", "y"), ev(impl.HTime), ev(impl.HGo), evN(impl.HTime, 1)}
	checkAnswers(t, "most lines", h, slices.Concat(full, more), slices.Concat(want, []string{"code 4", "code 4", "code 4", "code 4", "code 4", "code 0", "code 0", "code 4"})...)
	// One line is left: there is room for a tick, not for an input.
	full[4].N = 45
	want[5] = `code 0 says ["x 195"]`
	left := []impl.Event{evText(impl.HInput, ""), evSay("c", "y"), evN(impl.HTime, 2), evN(impl.HTime, 1), evN(impl.HTime, 1), ev(impl.HLay)}
	checkAnswers(t, "a line left", h, slices.Concat(full, left), slices.Concat(want, []string{"code 4", "code 4", "code 4", "code 0", "code 4", "code 0 num 1"})...)
	stopped := []impl.Event{evStop(onLine(10, 60)), evN(impl.HTime, 1), ev(impl.HBegin), ev(impl.HGo), ev(impl.HBegin)}
	checkAnswers(t, "stopped", h, slices.Concat(full, stopped), slices.Concat(want, []string{"code 0", "code 0", "code 3", "code 0", "code 4"})...)
}

// P13: all sorts of sessions, such as end by an error or for want of ticks too, with all sorts of events.
func TestPlaySessions(t *testing.T) {
	scripts := map[string][]impl.Event{
		"said":    {ev(impl.HBegin), evSay("c", "hi"), evN(impl.HTime, 2), evText(impl.HInput, "in"), evSay("c", "ho"), ev(impl.HLines), ev(impl.HBegin), evSay("bad", "x")},
		"stopped": {evStop(impl.Stop{Kind: impl.OnThrow}), evStop(onLine(10, 61)), ev(impl.HBegin), ev(impl.HGo), ev(impl.HInto), ev(impl.HOver), ev(impl.HOut), evN(impl.HWhere, 0), ev(impl.HVars), ev(impl.HGo), ev(impl.HGo), ev(impl.HGo), ev(impl.HGo), evN(impl.HTime, 3), evN(impl.HCount, 0), evN(impl.HCount, 1), ev(impl.HLines)},
		"laid":    {ev(impl.HBegin), ev(impl.HLay), evN(impl.HTime, 2), ev(impl.HTake), evN(impl.HTime, 1), evCut(1), evN(impl.HTime, 1), evCut(200), evN(impl.HTime, 1)},
	}
	for told, s := range allSessions() {
		t.Run(told, func(t *testing.T) {
			t.Parallel()
			for script, events := range scripts {
				checkPlay(t, told+", "+script, s.host, events...)
			}
		})
	}
}

// P13: a house without a moment stands behind all and ahead of all of them.
func TestPlayNoMoments(t *testing.T) {
	h := allowing(counterHost(), 0, 60, 20000)
	var events []impl.Event
	for _, name := range everyEventName() {
		events = append(events, everyEvent()[name])
	}
	answers := checkPlay(t, "no ticks", h, events...)
	for i, a := range answers {
		if a.Place != 0 || len(a.Says) > 0 || len(a.Vars) > 0 || len(a.Counts) > 0 {
			t.Errorf("%s: %v", everyEventName()[i], a)
		}
	}
	checkAnswers(t, "no ticks", h, []impl.Event{ev(impl.HBegin), evN(impl.HWhere, 0), ev(impl.HLay), ev(impl.HTake), ev(impl.HInto), ev(impl.HVars), evN(impl.HWhere, 1)}, "code 0", "code 0 calls 0:0<-1", "code 0 num 1", "code 0 num 1", "code 0", "code 0", "code 0")
}

// P13: a module that reads lines itself has other moments when there are more of them: the house goes on by their numbers.
func TestPlayOtherMoments(t *testing.T) {
	t.Parallel()
	inner := hostOf("a", lined(`print("in")`, `house.loop()`, `print("out")`, `for i = 1, 30 {print(i)}`))
	short := hostOf("a", lined(`print("in")`, `house.loop()`, `if now() == 0 {for i = 1, 30 {print(i)}}`))
	for told, h := range map[string]impl.Hosted{"in the loop": inner, "shorter": short} {
		fewer := false
		for _, stops := range [][]impl.Event{nil, {evStop(onLine(10, 60))}, {evStop(onLine(11, 73))}} {
			a := checkPlay(t, told, h, slices.Concat([]impl.Event{ev(impl.HBegin), ev(impl.HLay)}, stops, []impl.Event{evN(impl.HTime, 1), ev(impl.HGo), evN(impl.HTime, 1), ev(impl.HGo), ev(impl.HLines), ev(impl.HTake), evN(impl.HWhere, 0), ev(impl.HBegin)})...)
			fewer = fewer || a[len(stops)+2].Place < a[0].Place
		}
		if fewer != (told == "shorter") {
			t.Errorf("%s: fewer moments: %v", told, fewer)
		}
	}
}

// P13: paces are kept, and change nothing of what is said.
func TestPlayPaces(t *testing.T) {
	want := impl.Play(counterHost(), []impl.Event{ev(impl.HBegin), evSay("c", "x")})
	for _, pace := range []int{0, 1, 2, 999, 1000} {
		a := checkPlay(t, fmt.Sprint("pace ", pace), counterHost(), evN(impl.HPace, pace), ev(impl.HBegin), evN(impl.HPace, 1000-pace), evSay("c", "x"))
		checkShown(t, fmt.Sprint("pace ", pace), answersTold([]impl.Answered{a[1], a[3]}), answersTold(want))
	}
}
