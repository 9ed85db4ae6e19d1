package tests

import (
	"fmt"
	"slices"
	"strings"
	"testing"

	"loop.example/heddle/impl"
)

// ownMoments: the moments of a session from the first call of the main module on, and where they begin.
func ownMoments(h impl.Hosted, lines []string) ([]string, int) {
	moments := impl.Moments(h, lines)
	from := slices.IndexFunc(moments, func(m impl.Moment) bool { return m.Rec.Kind == impl.RecCall && m.Rec.Fn > 10 })
	if from < 0 {
		return nil, len(moments)
	}
	return momentsTold(moments)[from:], from
}

// checkOwnMoments: these are the moments from the call of the main module on, up to its end; behind it the house goes on and waits.
func checkOwnMoments(t *testing.T, h impl.Hosted, want ...string) {
	t.Helper()
	told := h.Bundle.Sources[0].Text
	moments, _ := plainMoments(h, words("begin"))
	checkMoments(t, told, h, words("begin"), moments)
	got, _ := ownMoments(h, words("begin"))
	checkShown(t, told, got[:min(len(want), len(got))], want)
	if len(got) == 0 || got[len(got)-1] != "line 0.10:60" {
		t.Errorf("%s: the house does not wait: %s", told, shortly(got))
	}
}

// P11: all sessions: moments, calls and stops are those of the plain ones.
func TestSessionsPlayed(t *testing.T) {
	for told, s := range allSessions() {
		t.Run(told, func(t *testing.T) {
			t.Parallel()
			checkPlayed(t, told, s.host, s.lines, 30)
		})
	}
}

// P11: each moment has the variables of the innermost open call: none, several, several of one name.
func TestMomentsVars(t *testing.T) {
	checkOwnMoments(t, hostOf("a", "let x = 1\nx = 2\nprint(x)"),
		"call 0.11:70", "line 0.11:71", "line 0.11:72 x=1", "line 0.11:73 x=2", "print 0.11:73 2 x=2", "back 0.11:0", "line 0.2:14 name=a s=nil f=fn")
	checkOwnMoments(t, hostOf("a", ""), "call 0.11:70", "back 0.11:0")
	checkOwnMoments(t, hostOf("a", "let x, y = 1.5\n{\n\tlet x = \"s\"\n\tlet x = {}\n\tx = nil\n}\ny = ..."),
		"call 0.11:70", "line 0.11:71", "line 0.11:73 x=3p-1 y=nil", "line 0.11:74 x=3p-1 y=nil x=s", "line 0.11:75 x=3p-1 y=nil x=s x=table", "line 0.11:77 x=3p-1 y=nil", "back 0.11:0")
	checkOwnMoments(t, hostOf("a", "fn f(n, m) {\n\tlet k = n\n\treturn k\n}\nlet v = f(1, f(2))"),
		"call 0.11:70", "line 0.11:71", "line 0.11:71 f=nil", "line 0.11:75 f=fn",
		"call 0.12:71 f n=2 m=nil", "line 0.12:72 n=2 m=nil", "line 0.12:73 n=2 m=nil k=2", "back 0.12:0 n=2 m=nil",
		"call 0.12:71 f n=1 m=2", "line 0.12:72 n=1 m=2", "line 0.12:73 n=1 m=2 k=1", "back 0.12:0 n=1 m=2", "back 0.11:0")
}

// P11: what is thrown and caught: a RecCatch of a try is a moment, in whichever fn.
func TestMomentsThrown(t *testing.T) {
	checkOwnMoments(t, hostOf("a", "fn f(n) {\n\tdefer print(n)\n\tthrow n\n}\ntry {\n\tlet x = 1\n\tf(7)\n} catch e, t {\n\tprint(e)\n}"),
		"call 0.11:70", "line 0.11:71", "line 0.11:71 f=nil", "line 0.11:75 f=fn", "line 0.11:76 f=fn", "line 0.11:77 f=fn x=1",
		"call 0.12:71 f n=7", "line 0.12:72 n=7", "line 0.12:73 n=7", "throw 0.12:73 7 n=7", "print 0.12:72 7 n=7", "back 0.12:0 error n=7",
		"catch 0.11:75 7 f=fn", "line 0.11:79 f=fn e=7 t=f:73 fn:77 import:13 guard:45 fn:62 main:83", "print 0.11:79 7 f=fn e=7 t=f:73 fn:77 import:13 guard:45 fn:62 main:83", "back 0.11:0")
}

// P11: at the turn to a new task no call is open, and when one is over it is that of the one that waits for it.
func TestMomentsTasks(t *testing.T) {
	checkOwnMoments(t, hostOf("a", "let t = task(fn(x) {\n\tyield(x)\n\tx = 3\n})\nresume(t, 1)\nresume(t)"),
		"call 0.11:70", "line 0.11:71", "line 0.11:75 t=task",
		"turn 1.0:0 resume", "call 1.12:71 x=1", "line 1.12:72 x=1", "turn 0.0:0 yield t=task", "line 0.11:76 t=task",
		"turn 1.0:0 resume x=1", "line 1.12:73 x=1", "back 1.12:0 x=3", "turn 0.0:0 done t=task", "back 0.11:0")
	checkOwnMoments(t, hostOf("a", "let t = task(fn(x) {\n\tyield(x)\n})\nresume(t, 1)\ngiveup(t)"),
		"call 0.11:70", "line 0.11:71", "line 0.11:74 t=task",
		"turn 1.0:0 resume", "call 1.12:71 x=1", "line 1.12:72 x=1", "turn 0.0:0 yield t=task", "line 0.11:75 t=task",
		"turn 1.0:0 giveup x=1", "back 1.12:0 gone x=1", "turn 0.0:0 gone t=task", "back 0.11:0")
}

// P11: last words are no moments, nor what is caught of them; their calls are, and what is caught elsewhere.
func TestMomentsLastWords(t *testing.T) {
	h := hostOf("a", "let k = {.last = fn(t) {throw t.n}}\nsetkind({.n = 1}, k)\nsetkind({.n = 2}, k)\ntry {\n\tcollect()\n\tthrow 5\n} catch e, w {\n\tk = w\n}")
	checkOwnMoments(t, h,
		"call 0.11:70", "line 0.11:71", "line 0.11:72 k=table", "line 0.11:73 k=table", "line 0.11:74 k=table", "line 0.11:75 k=table",
		"call 0.12:71 t=table", "line 0.12:71 t=table", "throw 0.12:71 1 t=table", "back 0.12:0 error t=table",
		"call 0.12:71 t=table", "line 0.12:71 t=table", "throw 0.12:71 2 t=table", "back 0.12:0 error t=table",
		"line 0.11:76 k=table", "throw 0.11:76 5 k=table", "catch 0.11:74 5 k=table", "line 0.11:78 k=table e=5 w=fn:76 import:13 guard:45 fn:62 main:82", "back 0.11:0")
	recs := map[string]int{}
	for _, rec := range impl.Session(h, words("begin")).Recs {
		recs[fmt.Sprint(rec.Kind, rec.Fn > 0)]++
	}
	if recs["8 false"] != 2 || recs["5 false"] != 2 || recs["5 true"] != 1 {
		t.Errorf("%v", recs)
	}
}

// P11: the house waits at its line 60: what it does behind that, because there are no more lines, is not settled.
func TestMomentsWaiting(t *testing.T) {
	h := hostOf("a", "print(1)")
	for told, lines := range map[string][]string{"no lines": nil, "begin": words("begin"), "time": words("begin tick tick"), "other words": words("x y z")} {
		recs := impl.Session(h, lines).Recs
		moments := impl.Moments(h, lines)
		checkShown(t, told, recsTold(recs[len(moments)-1:]), []string{"line 0.10:60", "line 0.10:61", "line 0.10:61", "back 0.10:0"})
		for i, m := range moments {
			if m.Rec != recs[i] {
				t.Errorf("%s: moment %d %v, want %v", told, i, m.Rec, recs[i])
			}
		}
	}
	none := impl.Moments(h, nil)
	if len(none) != 29 {
		t.Errorf("%d moments without lines", len(none))
	}
}

func recsTold(recs []impl.Rec) []string {
	var told []string
	for _, r := range recs {
		told = append(told, recTold(r))
	}
	return told
}

// P11: what was settled stays as it is when more lines come.
func TestMomentsSettled(t *testing.T) {
	events := []impl.Event{{Op: impl.HBegin}, {Op: impl.HTime, N: 1}, {Op: impl.HInput, Text: "in"}, {Op: impl.HSay, Name: "c", Text: "hi"}, {Op: impl.HSay, Name: "x"}, {Op: impl.HTime, N: 2}, {Op: impl.HBegin}, {Op: impl.HSay, Name: "bad", Text: "y"}}
	for _, name := range []string{"begin", "time", "talk", "tasks", "last words", "a ring", "a module that throws"} {
		h := allSessions()[name].host
		var before []string
		for n := range len(events) + 1 {
			got := momentsTold(impl.Moments(h, impl.SessionLines(events[:n])))
			if len(got) < len(before) || !slices.Equal(got[:len(before)], before) {
				t.Errorf("%s: behind %d events the moments ahead of them are others", name, n)
			}
			if n > 0 && len(got) == len(before) || got[len(got)-1] != "line 0.10:60" {
				t.Errorf("%s: %d moments behind %d events", name, len(got), n)
			}
			before = got
		}
	}
}

// P11: line 60 of a source is no line at which the house waits.
func TestMomentsLineOfSource(t *testing.T) {
	h := hostOf("a", strings.Repeat("\n", 59)+"print(1)\n\nwhile true {}")
	for _, lines := range [][]string{words("begin"), nil} {
		moments, _ := plainMoments(h, lines)
		checkMoments(t, "line 60", h, lines, moments)
	}
	h = hostOf("a", strings.Repeat("\n", 59)+"print(1)\n\nprint(2)")
	checkOwnMoments(t, h, "call 0.11:70", "line 0.11:130", "print 0.11:130 1", "line 0.11:132", "print 0.11:132 2", "back 0.11:0")
}

// P11: all records are settled when the Report has a Code.
func TestMomentsOfCodes(t *testing.T) {
	all := allSessions()
	for told, code := range map[string]int{"few ticks": 2, "no ticks": 2, "few cells": 1, "no cells": 1, "no depth for the loop": 1, "a text that goes on": 2} {
		s := all[told]
		r := impl.Session(s.host, s.lines)
		if r.Code != code {
			t.Errorf("%s: code %d", told, r.Code)
		}
		var got []impl.Rec
		for _, m := range impl.Moments(s.host, s.lines) {
			got = append(got, m.Rec)
		}
		if !slices.Equal(got, r.Recs) {
			t.Errorf("%s: %d moments, %d records", told, len(got), len(r.Recs))
		}
	}
	// One tick more than up to the waiting: the record behind it is settled, since it is the last that was made.
	h := hostOf("a", "")
	whole := impl.Session(h, nil)
	h.Ticks = whole.Ticks
	if got := len(impl.Moments(h, nil)); got != 29 {
		t.Errorf("%d moments", got)
	}
	h.Ticks--
	if got := impl.Moments(h, nil); len(got) != 30 || got[29].Rec.Line != 61 {
		t.Errorf("%d moments with a tick less", len(got))
	}
}

// P17: moments are new memory: no two of them share any, nor do they share any with what was given or with a second answer.
func TestMomentsMemory(t *testing.T) {
	h := hostOf("a", "let longish = read()\nprint(longish)\nthrow longish")
	lines := []string{"input", "a line that is read", "begin"}
	one, two := impl.Moments(h, lines), impl.Moments(h, lines)
	before := momentsTold(one)
	given := append([]string{h.Bundle.Sources[0].Text, h.Bundle.Sources[0].Name, h.Main}, lines...)
	for i, m := range one {
		for k, v := range m.Vars {
			if sharedTexts([]string{v.Name, v.Text, m.Rec.Text}, given) || sharesText(v.Name, two[i].Vars[k].Name) || sharesText(v.Text, two[i].Vars[k].Text) && len(v.Text) > 7 {
				t.Errorf("moment %d: %v", i, v)
			}
		}
	}
	for i := range one {
		for k := range one[i].Vars {
			one[i].Vars[k] = impl.Shown{Name: "another"}
		}
		_ = append(one[i].Vars, impl.Shown{Name: "one more"})
		one[i].Rec = impl.Rec{}
		checkShown(t, "the others", momentsTold(one[i+1:]), before[i+1:])
	}
	checkShown(t, "a second answer", momentsTold(two), before)
	checkShown(t, "a third answer", momentsTold(impl.Moments(h, lines)), before)
}
