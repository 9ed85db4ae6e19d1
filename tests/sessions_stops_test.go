package tests

import (
	"fmt"
	"slices"
	"strings"
	"testing"

	"loop.example/heddle/impl"
)

// checkHits: where a stop holds, by numbers from the call of the main module on.
func checkHits(t *testing.T, h impl.Hosted, s impl.Stop, want ...int) {
	t.Helper()
	lines := words("begin")
	own, from := ownMoments(h, lines)
	var got []int
	for _, k := range impl.Hits(h, lines, s) {
		got = append(got, k-from)
	}
	if !slices.Equal(got, want) {
		t.Errorf("%s: %+v: %v, want %v; %s", h.Bundle.Sources[0].Text, s, got, want, strings.Join(own, " | "))
	}
}

func onLine(fn, line int) impl.Stop { return impl.Stop{Kind: impl.OnLine, Fn: fn, Line: line} }

func onCall(fn int) impl.Stop { return impl.Stop{Kind: impl.OnCall, Fn: fn} }

func onWatch(fn int, name string) impl.Stop {
	return impl.Stop{Kind: impl.OnWatch, Fn: fn, Name: name}
}

// P11: lines and calls of a fn that calls itself, met many times or never.
func TestHitsLinesAndCalls(t *testing.T) {
	h := hostOf("a", "fn f(n) {\n\tif n > 0 {f(n - 1)}\n\tprint(n)\n}\nf(1)")
	checkHits(t, h, onLine(12, 72), 5, 6, 8)
	checkHits(t, h, onLine(12, 73), 9, 12)
	checkHits(t, h, onLine(11, 71), 1, 2)
	checkHits(t, h, onLine(11, 75), 3)
	checkHits(t, h, onLine(11, 72))
	checkHits(t, h, onLine(12, 71))
	checkHits(t, h, onLine(12, 74))
	checkHits(t, h, onLine(13, 72))
	checkHits(t, h, onLine(0, 76))
	checkHits(t, h, onLine(0, 78), -21)
	checkHits(t, h, onLine(10, 60), -18, 20)
	checkHits(t, h, onCall(12), 4, 7)
	checkHits(t, h, onCall(11), 0)
	checkHits(t, h, onCall(10), -20)
	checkHits(t, h, onCall(0))
	checkHits(t, h, onCall(299))
	checkHits(t, h, impl.Stop{Kind: impl.OnThrow})
	many := hostOf("a", "for i = 1, 4 {\n\tprint(i)\n}")
	checkHits(t, many, onLine(11, 72), 2, 4, 6, 8)
	checkHits(t, many, onLine(11, 71), 1)
}

// P11: all that is thrown: by a throw, by the machine, again, in a task, in a last word.
func TestHitsThrows(t *testing.T) {
	throws := impl.Stop{Kind: impl.OnThrow}
	checkHits(t, hostOf("a", "try {\n\tthrow 1\n} catch e {\n\ttry {\n\t\tthrow e\n\t} catch f {\n\t\tprint()()\n\t}\n}"), throws, 3, 7, 11, 17)
	checkHits(t, hostOf("a", "resume(task(fn() {throw 1}))"), throws, 5)
	checkHits(t, hostOf("a", "setkind({}, {.last = fn() {throw 1}})\ncollect()"), throws, 5)
	checkHits(t, hostOf("a", "print(1)"), throws)
}

// P11: a watched variable: when it is declared, when it changes, when it changes back.
func TestHitsWatch(t *testing.T) {
	h := hostOf("a", "let y\nlet x = 1\nx = 2\nx = 1\nx = 1\nx = \"1\"\nx = {}\nx = {}\nlet z = x")
	checkHits(t, h, onWatch(11, "x"), 3, 4, 5, 8)
	checkHits(t, h, onWatch(11, "y"), 2)
	checkHits(t, h, onWatch(11, "z"))
	checkHits(t, h, onWatch(11, "w"))
	checkHits(t, h, onWatch(12, "x"))
	checkHits(t, h, onWatch(10, "x"))
	checkHits(t, h, onWatch(11, "X"))
	// It is nil, and then something else.
	checkHits(t, hostOf("a", "let x\nx = 1.5\nx = nil\nx = 3\nx = 3.0\nprint(x)"), onWatch(11, "x"), 2, 3, 4, 5, 6)
	// At other records than lines: what a call gives is there when the next one is begun.
	checkHits(t, hostOf("a", "let x = 1\nx = (fn() {return 2})()\nprint(x)"), onWatch(11, "x"), 2, 6)
}

// P11: a variable that is out of scope for a while: it is held against what it was when it was seen last.
func TestHitsWatchScopes(t *testing.T) {
	turns := hostOf("a", "for i = 1, 3 {\n\tlet k = 5\n\tprint(k)\n}")
	checkHits(t, turns, onWatch(11, "k"), 3)
	checkHits(t, turns, onWatch(11, "i"), 2, 5, 8)
	checkHits(t, hostOf("a", "for i = 1, 3 {\n\tlet k = i\n\tprint(k)\n}"), onWatch(11, "k"), 3, 6, 9)
	// Of several with its name the last one counts.
	twice := hostOf("a", "let x = 1\nlet x = 2\n{\n\tlet x = 2\n\tx = 3\n\tprint(x)\n}\nprint(x)\nx = 4\nprint(x)")
	checkHits(t, twice, onWatch(11, "x"), 2, 3, 5, 7, 10)
	checkHits(t, hostOf("a", "let x = 1\n{\n\tlet x = 1\n\tx = 1\n}\nprint(x)"), onWatch(11, "x"), 2)
}

// P11: of each open call by itself: in a fn that calls itself, in calls one behind the other, in tasks that take turns.
func TestHitsWatchCalls(t *testing.T) {
	checkHits(t, hostOf("a", "fn f(n) {\n\tif n > 0 {f(n - 1)}\n\tprint(n)\n}\nf(1)"), onWatch(12, "n"), 4, 7)
	checkHits(t, hostOf("a", "fn f(n) {\n\tprint(n)\n}\nf(1)\nf(1)\nf(2)"), onWatch(12, "n"), 4, 9, 14)
	checkHits(t, hostOf("a", "fn f(n) {\n\tlet k = n\n\tif n > 0 {f(n - 1)}\n\tk = k + 10\n\tprint(k)\n}\nf(1)"), onWatch(12, "k"), 6, 10, 12, 16)
	tasks := hostOf("a", lined("fn f(n) {", "\tyield()", "\tn = n + 1", "\tyield()", "}", "let s, t = task(f), task(f)", "resume(s, 1)", "resume(t, 1)", "resume(s)", "resume(t)", "print(1)"))
	checkHits(t, tasks, onWatch(12, "n"), 6, 11, 17, 22)
	checkHits(t, tasks, onCall(12), 6, 11)
}

// P11: at a RecBack the call that it closes is shown, with its parameters alone, not the one behind it.
func TestHitsWatchBack(t *testing.T) {
	h := hostOf("a", "fn f(n) {\n\tn = n + 1\n}\nlet n = 5\nf(1)\nprint(n)")
	checkHits(t, h, onWatch(12, "n"), 5, 7)
	checkHits(t, h, onWatch(11, "n"), 4)
	checkHits(t, hostOf("a", "fn f(n) {\n\tlet k = n\n\tk = 2\n}\nf(1)"), onWatch(12, "k"), 6)
	checkHits(t, hostOf("a", "fn f(n) {\n\tn = 2\n\tthrow n\n}\ntry {\n\tf(1)\n} catch e {}\n"), onWatch(12, "n"), 5, 7)
	checkHits(t, hostOf("a", "fn f(n) {\n\tdefer (fn() {n = 3})()\n\treturn n\n}\nf(1)"), onWatch(12, "n"), 4, 10)
	// The house's own: its clock is no variable of a fn that is open, its words are.
	checkHits(t, h, onWatch(10, "k"), -17)
	checkHits(t, h, onWatch(8, "a"), -13)
}

// P11: a variable of an outer fn is seen where its own call is.
func TestHitsWatchOuter(t *testing.T) {
	h := hostOf("a", "let x = 1\nfn f() {\n\tx = x + 1\n\tprint(x)\n}\nf()\nf()\nprint(x)")
	checkHits(t, h, onWatch(11, "x"), 2, 10, 16)
	checkHits(t, h, onWatch(12, "x"))
	// What changes and changes back behind its back is never seen.
	checkHits(t, hostOf("a", "let x = 1\nfn f() {\n\tx = 2\n\tprint(x)\n\tx = 1\n}\nf()\nprint(x)"), onWatch(11, "x"), 2)
	// A task's fn changes it while another call is shown: at the turn back it is seen.
	checkHits(t, hostOf("a", "let x = 1\nresume(task(fn() {\n\tx = 2\n\tyield()\n}))\nprint(x)"), onWatch(11, "x"), 2, 7)
}

// P11: variables of the text itself, whose call no moment opens.
func TestHitsWatchText(t *testing.T) {
	h := hostOf("a", "now = nil\nhouse = house\nimport, read = read, 7")
	lines := words("begin tick")
	moments, _ := plainMoments(h, lines)
	var stops []impl.Stop
	for _, name := range []string{"import", "now", "after", "on", "read", "house"} {
		stops = append(stops, onWatch(0, name))
	}
	for n, want := range plainHits(moments, stops) {
		if got := impl.Hits(h, lines, stops[n]); !slices.Equal(got, want) || !slices.Equal(got, []int{23}) {
			t.Errorf("%s: %v, want %v", stops[n].Name, got, want)
		}
	}
}

// P11: stops that are none hold nowhere, though there would be places for them.
func TestHitsNoStops(t *testing.T) {
	h, lines := hostOf("a", "let x = 1\ntry {throw x} catch e {}\nprint(x)"), words("begin")
	good := []impl.Stop{onLine(11, 71), onCall(11), onWatch(11, "x"), {Kind: impl.OnThrow}, onLine(0, 1)}
	for _, s := range good {
		if len(impl.Hits(h, lines, s)) == 0 {
			t.Errorf("%+v holds nowhere", s)
		}
		for told, wrong := range map[string]func(s *impl.Stop){
			"no Kind": func(s *impl.Stop) { s.Kind = 0 }, "Kind 5": func(s *impl.Stop) { s.Kind = 5 }, "Kind below 0": func(s *impl.Stop) { s.Kind = -s.Kind }, "Fn -1": func(s *impl.Stop) { s.Fn = -1 }, "Fn 300": func(s *impl.Stop) { s.Fn = 300 },
			"another Line": func(s *impl.Stop) { s.Line = 1 - min(s.Line, 1) }, "another Name": func(s *impl.Stop) { s.Name = strings.Repeat("x", 1-min(len(s.Name), 1)) }, "a long Name": func(s *impl.Stop) { s.Name = strings.Repeat("x", 41) }, "Line 100001": func(s *impl.Stop) { s.Line = 100001 },
		} {
			bad := s
			wrong(&bad)
			if got := impl.Hits(h, lines, bad); len(got) > 0 {
				t.Errorf("%s: %+v: %v", told, bad, got)
			}
		}
	}
	if got := impl.Hits(h, lines, impl.Stop{Kind: impl.OnThrow, Fn: 11}); len(got) > 0 {
		t.Errorf("a throw of a fn: %v", got)
	}
	if got := impl.Hits(allowing(h, 0, 60, 20000), lines, onLine(0, 1)); len(got) > 0 {
		t.Errorf("without a tick: %v", got)
	}
}

// P11: behind the moment at which the house waits last no stop holds.
func TestHitsSettled(t *testing.T) {
	h := hostOf("a", "print(1)")
	for told, lines := range map[string][]string{"no lines": nil, "begin": words("begin"), "begin, time": words("begin tick")} {
		count := len(impl.Moments(h, lines))
		if got := impl.Hits(h, lines, onLine(10, 60)); len(got) == 0 || got[len(got)-1] != count-1 {
			t.Errorf("%s: line 60 at %v of %d", told, got, count)
		}
		if got := impl.Hits(h, lines, onLine(10, 61)); len(got) != len(lines) {
			t.Errorf("%s: line 61 at %v", told, got)
		}
	}
}

// P17: hits are new memory, and the same again.
func TestHitsMemory(t *testing.T) {
	h, lines := hostOf("a", "for i = 1, 4 {\n\tprint(i)\n}"), words("begin tick")
	bundle := copiedBundle(h.Bundle)
	for _, s := range []impl.Stop{onLine(11, 72), onCall(9), onWatch(11, "i")} {
		one, two := impl.Hits(h, lines, s), impl.Hits(h, lines, s)
		before := fmt.Sprint(one)
		for i := range one {
			one[i] = -5
		}
		wantTold(t, "a second answer", fmt.Sprint(two), before)
		wantTold(t, "a third answer", fmt.Sprint(impl.Hits(h, lines, s)), before)
	}
	if !sameBundle(h.Bundle, bundle) || !slices.Equal(lines, words("begin tick")) {
		t.Error("what was given has changed")
	}
}
