package tests

import (
	"fmt"
	"slices"
	"strings"
	"testing"

	"loop.example/heddle/impl"
)

// checkStacks: the open calls of a task behind moments from the call of the main module on, by their number from there.
func checkStacks(t *testing.T, h impl.Hosted, task int, want map[int]string) {
	t.Helper()
	lines := words("begin")
	_, from := ownMoments(h, lines)
	for k, told := range want {
		if got := callsTold(impl.StackAt(h, lines, from+k, task)); got != told {
			t.Errorf("%s: task %d at %d: %s, want %s", h.Bundle.Sources[0].Text, task, k, got, told)
		}
	}
}

// houseCalls: the calls of the house around the main module of one source, whose text's last line is this one.
func houseCalls(line int) string { return fmt.Sprintf(" 2:13<36 8:45<33 10:62<26 0:%d<-1", line) }

// P11: calls within calls, each with the last line that was begun in it; none at first.
func TestStackAtCalls(t *testing.T) {
	h := hostOf("a", "fn f(n) {\n\tif n > 0 {f(n - 1)}\n\tprint(n)\n}\nf(1)")
	house := houseCalls(78)
	checkStacks(t, h, 0, map[int]string{
		-1: "2:13<36 8:45<33 10:62<26 0:78<-1",
		0:  "11:0<46" + house,
		1:  "11:71<46" + house,
		2:  "11:71<46" + house,
		3:  "11:75<46" + house,
		4:  "12:0<50 11:75<46" + house,
		5:  "12:72<50 11:75<46" + house,
		7:  "12:0<53 12:72<50 11:75<46" + house,
		8:  "12:72<53 12:72<50 11:75<46" + house,
		9:  "12:73<53 12:72<50 11:75<46" + house,
		10: "12:73<53 12:72<50 11:75<46" + house,
		11: "12:72<50 11:75<46" + house,
		12: "12:73<50 11:75<46" + house,
		14: "11:75<46" + house,
		15: "2:13<36 8:45<33 10:62<26 0:78<-1",
		16: "2:14<36 8:45<33 10:62<26 0:78<-1",
		18: "8:45<33 10:62<26 0:78<-1",
		19: "10:62<26 0:78<-1",
		20: "10:60<26 0:78<-1",
	})
}

// P11: what is thrown leaves calls one by one; neither a defer nor a catch sets a line.
func TestStackAtThrown(t *testing.T) {
	h := hostOf("a", "fn f(n) {\n\tdefer print(n)\n\tthrow n\n}\ntry {\n\tlet x = 1\n\tf(7)\n} catch e {\n\tprint(e)\n}")
	house := houseCalls(83)
	checkStacks(t, h, 0, map[int]string{
		6:  "12:0<52 11:77<46" + house,
		8:  "12:73<52 11:77<46" + house,
		9:  "12:73<52 11:77<46" + house,
		10: "12:73<52 11:77<46" + house,
		11: "11:77<46" + house,
		12: "11:77<46" + house,
		13: "11:79<46" + house,
	})
}

// P11: each task has its own calls, whichever runs; the ones that were given up or are done have none.
func TestStackAtTasks(t *testing.T) {
	h := hostOf("a", "let t = task(fn(x) {\n\tyield(x)\n\tx = 3\n})\nresume(t, 1)\nresume(t)")
	own := map[int]string{0: "", 2: "", 3: "", 4: "12:0<50", 5: "12:72<50", 6: "12:72<50", 7: "12:72<50", 8: "12:72<50", 9: "12:73<50", 10: "", 11: "", 12: ""}
	checkStacks(t, h, 1, own)
	house := houseCalls(79)
	checkStacks(t, h, 0, map[int]string{3: "11:75<46" + house, 5: "11:75<46" + house, 6: "11:75<46" + house, 7: "11:76<46" + house, 9: "11:76<46" + house, 11: "11:76<46" + house, 12: houseCalls(79)[1:]})
	for _, task := range []int{2, 3, 98, 99, 100, 101, -1, leastInt, mostInt} {
		checkStacks(t, h, task, map[int]string{0: "", 5: "", 9: "", 12: ""})
	}
	gone := hostOf("a", "let t = task(fn(x) {\n\tyield(x)\n})\nresume(t, 1)\ngiveup(t)")
	checkStacks(t, gone, 1, map[int]string{7: "12:72<50", 8: "12:72<50", 9: "", 10: "", 11: ""})
	// A fn of a task that resumes another: three tasks with calls at once.
	deep := hostOf("a", "fn f(n) {\n\tif n < 3 {resume(task(f), n + 1)}\n\tprint(n)\n}\nf(1)")
	checkStacks(t, deep, 0, map[int]string{6: "12:72<50 11:75<46" + houseCalls(78), 12: "12:72<50 11:75<46" + houseCalls(78)})
	checkStacks(t, deep, 1, map[int]string{6: "", 7: "", 8: "12:0<54", 10: "12:72<54", 14: "12:72<54"})
	checkStacks(t, deep, 2, map[int]string{11: "", 12: "12:0<58", 13: "12:72<58", 14: "12:73<58"})
}

// P11: as many tasks as there may be: the last of them is beyond what can be asked for.
func TestStackAtMostTasks(t *testing.T) {
	h := hostOf("a", "for i = 1, 100 {\n\tresume(task(fn() {\n\t\tyield()\n\t}))\n}")
	lines := words("begin")
	count := len(impl.Moments(h, lines))
	for task, open := range map[int]int{-1: 0, 0: 2, 1: 1, 2: 1, 50: 1, 98: 1, 99: 1, 100: 0, 101: 0} {
		got := impl.StackAt(h, lines, count, task)
		if len(got) != open || task > 0 && open > 0 && (got[0].Fn != 12 || got[0].Line != 73) {
			t.Errorf("task %d: %s", task, callsTold(got))
		}
	}
	turns := 0
	for _, m := range impl.Moments(h, lines) {
		if m.Rec.Task == 100 {
			turns++
		}
	}
	if turns != 3 {
		t.Errorf("%d moments of task 100", turns)
	}
}

// P11: places: ahead of all moments, behind each of them, behind all, and no places.
func TestStackAtPlaces(t *testing.T) {
	h := hostOf("a", "print(1)")
	for told, lines := range map[string][]string{"no lines": nil, "begin": words("begin"), "time": words("begin tick")} {
		count := len(impl.Moments(h, lines))
		for k, want := range map[int]string{leastInt: "", -3: "", -2: "", -1: "0:0<-1", 0: "0:1<-1", 1: "1:0<1 0:1<-1", 2: "1:2<1 0:1<-1",
			count - 1: "10:60<26 0:74<-1", count: "10:60<26 0:74<-1", count + 1: "", count + 2: "", mostInt: ""} {
			if got := callsTold(impl.StackAt(h, lines, k, 0)); got != want {
				t.Errorf("%s: at %d: %s, want %s", told, k, got, want)
			}
			if got := callsTold(impl.StackAt(h, lines, k, 1)); got != "" {
				t.Errorf("%s: task 1 at %d: %s", told, k, got)
			}
		}
	}
	// Without a tick there are no moments, but a session, with one place ahead of all and one behind all.
	none := allowing(h, 0, 60, 20000)
	for k, want := range map[int]string{-2: "", -1: "0:0<-1", 0: "0:0<-1", 1: ""} {
		if got := callsTold(impl.StackAt(none, nil, k, 0)); got != want {
			t.Errorf("no moments: at %d: %s, want %s", k, got, want)
		}
	}
	if len(impl.Moments(none, nil)) != 0 {
		t.Error("moments without a tick")
	}
}

// P11: the open calls of the running task are those that a look at the record shows; it shows one more where it is about to be closed.
func TestStackAtViews(t *testing.T) {
	for _, name := range []string{"tasks", "last words", "talk", "a loop in a task", "a fn without an end", "little depth"} {
		t.Run(name, func(t *testing.T) {
			t.Parallel()
			s := allSessions()[name]
			l := impl.Link(s.host.Bundle, s.host.Main)
			in := sessionInput(s.host, s.lines)
			moments, at := impl.Moments(s.host, s.lines), 0
			for k, rec := range impl.Session(s.host, s.lines).Recs {
				if at == len(moments) || moments[at].Rec != rec {
					continue
				}
				at++
				if at%5 > 0 && rec.Kind == impl.RecLine {
					continue
				}
				var got, want []int
				view := impl.Look(l.Unit, in, k)
				for _, c := range view.Calls {
					want = append(want, c.Fn)
				}
				if rec.Kind == impl.RecBack {
					want = want[1:]
				}
				for _, c := range impl.StackAt(s.host, s.lines, at-1, view.Task) {
					got = append(got, c.Fn)
				}
				if !slices.Equal(got, want) {
					t.Errorf("at %d: %v, want %v", at-1, got, want)
				}
			}
			if at != len(moments) {
				t.Errorf("%d of %d moments are records", at, len(moments))
			}
		})
	}
}

// P17: calls are new memory, and the same again.
func TestStackAtMemory(t *testing.T) {
	h, lines := hostOf("a", "fn f(n) {\n\tif n > 0 {f(n - 1)}\n\tprint(n)\n}\nf(3)"), words("begin")
	bundle := copiedBundle(h.Bundle)
	one, two := impl.StackAt(h, lines, 60, 0), impl.StackAt(h, lines, 60, 0)
	before := callsTold(one)
	if len(one) != 9 {
		t.Errorf("%s", before)
	}
	for i := range one {
		one[i] = impl.CallAt{Fn: -1}
	}
	wantTold(t, "a second answer", callsTold(two), before)
	wantTold(t, "a third answer", callsTold(impl.StackAt(h, lines, 60, 0)), before)
	if !sameBundle(h.Bundle, bundle) || strings.Join(lines, " ") != "begin" {
		t.Error("what was given has changed")
	}
}
