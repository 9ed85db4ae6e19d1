package tests

import (
	"fmt"
	"slices"
	"testing"

	"loop.example/heddle/impl"
)

func evValue(name string) impl.Event { return impl.Event{Op: impl.HValue, Name: name} }

// atPlace: events that bring a house to any place: it is stopped at the first moment of its begin, laid down, and what is laid down is
// spoiled until it is a journal with that place, and taken up. The house has to have fewer than 64 moments ahead of its begin.
func atPlace(t *testing.T, h impl.Hosted, place int) []impl.Event {
	t.Helper()
	stop := onLine(10, 61)
	first, _ := plainMoments(h, nil)
	j := impl.Journal{Lines: words("begin"), Place: len(first), Stops: []impl.Stop{stop}}
	other := copiedJournal(j)
	other.Place = place
	return slices.Concat([]impl.Event{evStop(stop), ev(impl.HBegin), ev(impl.HLay)}, respelt(t, j, other), []impl.Event{ev(impl.HTake)})
}

// P13: every event at place -1, at the first moment and others, as the plain house answers it.
func TestPlayAtPlaces(t *testing.T) {
	h := counterHost()
	for place, told := range map[int]string{-1: "ahead of all", 0: "the first", 1: "a call", 22: "a back", 29: "waiting", 30: "begun", 63: "far"} {
		ahead := atPlace(t, h, place)
		if len(ahead) > 56 {
			t.Fatalf("%s: %d events", told, len(ahead))
		}
		for _, name := range everyEventName() {
			t.Run(told+", "+name, func(t *testing.T) {
				t.Parallel()
				a := checkPlay(t, told+", "+name, h, append(slices.Clone(ahead), everyEvent()[name], ev(impl.HGo), evN(impl.HWhere, 0))...)
				if got := a[len(ahead)-1]; got.Code != 0 || got.Place != place || got.Num != 1 {
					t.Errorf("%s: taken up: %v", told, got)
				}
			})
		}
	}
}

// P13: every event at the last moment and behind all, with a stop and two lines read.
func TestPlayAtTheEnd(t *testing.T) {
	for told, ahead := range map[string][]impl.Event{
		"the last moment": {evN(impl.HTime, 1), evStop(onLine(10, 60)), ev(impl.HBegin)},
		"behind all":      {evN(impl.HTime, 1), evStop(onLine(10, 60)), ev(impl.HBegin), ev(impl.HGo)},
		"before a begin":  {evStop(onLine(10, 60))},
		"laid down":       {ev(impl.HBegin), ev(impl.HLay), evSay("c", "z"), ev(impl.HLay)},
		"a task's moment": {ev(impl.HBegin), evStop(onLine(13, 80)), evSay("t", "x")},
		"behind a throw":  {ev(impl.HBegin), evStop(impl.Stop{Kind: impl.OnThrow}), evSay("e", "x")},
	} {
		for _, name := range everyEventName() {
			t.Run(told+", "+name, func(t *testing.T) {
				t.Parallel()
				for host, h := range map[string]impl.Hosted{"counter": counterHost(), "deep": deepHost()} {
					checkPlay(t, told+", "+name+", "+host, h, append(slices.Clone(ahead), everyEvent()[name], evN(impl.HWhere, 1), ev(impl.HVars), ev(impl.HGo), ev(impl.HTake), ev(impl.HGo), evSay("c", "y"))...)
				}
			})
		}
	}
}

// P13: what can be seen ahead of all moments, behind all, and what steps do from there.
func TestPlayAheadOfAll(t *testing.T) {
	h := counterHost()
	check := func(then []impl.Event, want ...string) {
		t.Helper()
		ahead := atPlace(t, h, -1)
		checkShown(t, "ahead of all", answersTold(checkPlay(t, "ahead of all", h, append(ahead, then...)...)[len(ahead):]), want)
	}
	check([]impl.Event{evN(impl.HWhere, 0), evN(impl.HWhere, 1), ev(impl.HVars), evValue("house"), evN(impl.HCount, 0), ev(impl.HLines), ev(impl.HBegin), ev(impl.HTime)}, "at -1 code 0 calls 0:0<-1", "at -1 code 0", "at -1 code 0", "at -1 code 6", "at -1 code 0", "at -1 code 0", "at -1 code 3", "at -1 code 3")
	check([]impl.Event{ev(impl.HInto), evN(impl.HWhere, 0), ev(impl.HInto), evN(impl.HWhere, 0), ev(impl.HLines)}, "at 0 code 0", "at 0 code 0 calls 0:1<-1", "at 2 code 0", "at 2 code 0 calls 1:2<1 0:1<-1", "at 2 code 0 counts [{-1 1 1} {-1 2 1}]")
	check([]impl.Event{ev(impl.HOver), ev(impl.HOver), ev(impl.HOver)}, "at 0 code 0", "at 23 code 0", "at 24 code 0")
	check([]impl.Event{ev(impl.HOut), ev(impl.HGo)}, `at 79 code 0 says ["once" "7"]`, "at 79 code 0")
	check([]impl.Event{ev(impl.HGo), ev(impl.HGo), ev(impl.HGo)}, "at 30 code 0", `at 79 code 0 says ["once" "7"]`, "at 79 code 0")
	check([]impl.Event{evN(impl.HClear, 0), ev(impl.HGo), ev(impl.HVars), evValue("k"), evN(impl.HWhere, 0)}, "at -1 code 0", `at 79 code 0 says ["once" "7"]`, "at 79 code 0", "at 79 code 6", "at 79 code 0 calls 10:60<27 0:83<-1")
	check([]impl.Event{ev(impl.HLay), ev(impl.HGo), ev(impl.HTake), evCut(0), evCut(200)}, "at -1 code 0 num 2", "at 30 code 0", "at -1 code 0 num 2", "at -1 code 0 num 2", "at -1 code 0 num 3")
}

// P13: the open calls of each task, and which one runs; of tasks that are done, never ran, or can't be.
func TestHouseWhere(t *testing.T) {
	where := func(tasks ...int) []impl.Event {
		var events []impl.Event
		for _, task := range tasks {
			events = append(events, evN(impl.HWhere, task))
		}
		return events
	}
	house := " 8:45<111 10:64<26 0:105<-1"
	for told, c := range map[string]struct {
		stop impl.Stop
		want []string
	}{
		"task 0 runs":            {onLine(15, 90), []string{"at 117 code 0 calls 15:90<114" + house, "at 117 code 0", "at 117 code 0", "at 117 code 0"}},
		"task 1 runs":            {onLine(12, 75), []string{"at 134 code 0 num 1 calls 15:90<114" + house, "at 134 code 0 num 1 calls 12:75<128 12:73<123 13:80<119", "at 134 code 0 num 1", "at 134 code 0 num 1"}},
		"behind it, task 1 done": {onLine(15, 91), []string{"at 143 code 0 calls 15:91<114" + house, "at 143 code 0 calls 13:81<119", "at 143 code 0", "at 143 code 0"}},
		"behind all":             {onLine(299, 1), []string{"at 148 code 0 calls 10:60<26 0:105<-1", "at 148 code 0 calls 13:81<119", "at 148 code 0", "at 148 code 0"}},
	} {
		a := checkPlay(t, told, deepHost(), append([]impl.Event{ev(impl.HBegin), evSay("c", "x"), evStop(c.stop), evSay("t", "y")}, where(0, 1, 2, 99)...)...)
		checkShown(t, told, answersTold(a[4:]), c.want)
	}
}

// P13: a hundred tasks: the last of them may run, but can't be asked for.
func TestHouseWhereMostTasks(t *testing.T) {
	h := hostOf("a", lined("for i = 1, 100 {", "\tresume(task(fn(n) {", "\t\tif n == 100 {throw n}", "\t\tyield()", "\t}), i)", "}"))
	a := checkPlay(t, "many tasks", h, evStop(impl.Stop{Kind: impl.OnThrow}), ev(impl.HBegin), evN(impl.HWhere, 0), evN(impl.HWhere, 99), evN(impl.HWhere, 98), ev(impl.HInto))
	if a[2].Num != 100 || len(a[3].Stack) != 1 || a[3].Num != 100 || a[3].Stack[0].Line != 74 || a[5].Place != len(impl.Moments(h, words("begin"))) {
		t.Errorf("%v", answersTold(a))
	}
}

// P13: variables of the moment, and their values by name: of two with one name the last.
func TestHouseVars(t *testing.T) {
	h := hostOf("a", lined("let x = 1", "let x = \"two\"", "{", "\tlet x, y = {}, 1.5", "\tprint(x)", "}", "print(x)", "let e", "print(e)"))
	look := []impl.Event{ev(impl.HVars), evValue("x"), evValue("y"), evValue("e"), evValue("z"), evValue("X"), evValue(" ")}
	a := checkPlay(t, "vars", h, slices.Concat([]impl.Event{evStop(onLine(11, 72)), evStop(onLine(11, 75)), evStop(onLine(11, 77)), evStop(onLine(11, 79)), ev(impl.HBegin)}, look, []impl.Event{ev(impl.HGo)}, look, []impl.Event{ev(impl.HGo)}, look, []impl.Event{ev(impl.HGo)}, look, []impl.Event{ev(impl.HGo)}, look)...)
	var got []string
	for _, one := range a[5:] {
		got = append(got, answerTold(one))
	}
	none := "code 6"
	checkShown(t, "vars", got, []string{
		`code 0 vars [{"x" "1"}]`, `code 0 text "1"`, none, none, none, none, none,
		"code 0", `code 0 vars [{"x" "1"} {"x" "two"} {"x" "table"} {"y" "3p-1"}]`, `code 0 text "table"`, `code 0 text "3p-1"`, none, none, none, none,
		`code 0 says ["table"]`, `code 0 vars [{"x" "1"} {"x" "two"}]`, `code 0 text "two"`, none, none, none, none, none,
		`code 0 says ["two"]`, `code 0 vars [{"x" "1"} {"x" "two"} {"e" "nil"}]`, `code 0 text "two"`, none, `code 0 text "nil"`, none, none, none,
		`code 0 says ["nil"]`, "code 0", none, none, none, none, none, none,
	})
	empty := hostOf("a", lined("let x = \"\"", "print(x)"))
	checkAnswers(t, "an empty text", empty, []impl.Event{evStop(onLine(11, 72)), ev(impl.HBegin), evValue("x"), evValue("y")}, "code 0", "code 0", "code 0", "code 6")
}

// P13: counts by line over several sources, in order, the house's own first; up to the place.
func TestHouseLines(t *testing.T) {
	h := hostOf("a", lined("for i = 1, 2 {", "\timport(\"c\").f(i)", "}", "import(\"b\")"), "b", "\nprint(1)", "c", lined("fn f(n) {", "\tif n > 1 {f(n - 1)}", "}", "return {.f = f}"))
	a := checkPlay(t, "lines", h, ev(impl.HLines), ev(impl.HBegin), ev(impl.HLines), evStop(onCall(15)), evN(impl.HTime, 1), ev(impl.HLines))
	sources := func(counts []impl.Counted) []impl.Counted {
		return slices.DeleteFunc(slices.Clone(counts), func(c impl.Counted) bool { return c.Source < 0 })
	}
	own := func(counts []impl.Counted, line int) int {
		i := slices.IndexFunc(counts, func(c impl.Counted) bool { return c.Source == -1 && c.Line == line })
		if i < 0 {
			return 0
		}
		return counts[i].Count
	}
	if got := a[0].Counts; len(sources(got)) > 0 || own(got, 60) != 1 || own(got, 4) != 2 || own(got, 61) != 0 {
		t.Errorf("at first: %v", got)
	}
	want := []impl.Counted{{Source: 0, Line: 1, Count: 1}, {Source: 0, Line: 2, Count: 2}, {Source: 0, Line: 4, Count: 1}, {Source: 1, Line: 2, Count: 1}, {Source: 2, Line: 1, Count: 2}, {Source: 2, Line: 2, Count: 4}, {Source: 2, Line: 4, Count: 1}}
	for _, i := range []int{2, 5} {
		if got := sources(a[i].Counts); !slices.Equal(got, want) {
			t.Errorf("counts %v, want %v", got, want)
		}
	}
	if own(a[2].Counts, 60) != 2 || own(a[5].Counts, 60) != 3 || own(a[5].Counts, 51) != 1 || own(a[2].Counts, 70) != 1 {
		t.Errorf("the house's own: %v", a[5].Counts)
	}
	// At a stop the line at which it stands is counted in, the ones behind it are not.
	a = checkPlay(t, "at a stop", h, evStop(onLine(11, 72)), ev(impl.HBegin), ev(impl.HLines), ev(impl.HGo), ev(impl.HLines))
	if got := sources(a[2].Counts); !slices.Equal(got, want[:1]) && fmt.Sprint(got) != "[{0 1 1} {0 2 1}]" {
		t.Errorf("at a stop: %v", got)
	}
	if got := fmt.Sprint(sources(a[4].Counts)); got != "[{0 1 1} {0 2 2} {2 1 2} {2 2 1} {2 4 1}]" {
		t.Errorf("at a stop again: %v", got)
	}
}
