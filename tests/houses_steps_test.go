package tests

import (
	"fmt"
	"slices"
	"testing"

	"loop.example/heddle/impl"
)

// deepEvents: the deep host begins, has a stop, and hears on channel c, t or e; then these events.
func deepEvents(stop impl.Stop, channel string, then ...impl.Event) []impl.Event {
	return append([]impl.Event{ev(impl.HBegin), evStop(stop), evSay(channel, "x")}, then...)
}

// checkDeep: where the events behind these lead, and what is said on the way.
func checkDeep(t *testing.T, told string, events []impl.Event, want ...string) {
	t.Helper()
	answers := checkPlay(t, told, deepHost(), events...)
	checkShown(t, told, answersTold(answers[2:]), want)
}

// P13: steps through a fn that calls itself. The numbers are those of moments: 81 calls deep(1), 86 deep(0).
func TestHouseStepsOfOneTask(t *testing.T) {
	into, over, out, on := ev(impl.HInto), ev(impl.HOver), ev(impl.HOut), ev(impl.HGo)
	checkDeep(t, "into", deepEvents(onLine(14, 86), "c", into, into, into, into, into), "at 81 code 0", "at 83 code 0", `at 85 code 0 says ["deep 1"]`, "at 86 code 0", "at 88 code 0", `at 90 code 0 says ["deep 0"]`)
	checkDeep(t, "over", deepEvents(onLine(14, 86), "c", over, over, over), "at 81 code 0", `at 102 code 0 says ["deep 1" "deep 0" "up 0" "up 1" "c 1"]`, "at 103 code 0", "at 103 code 0")
	checkDeep(t, "over a call of itself", deepEvents(onLine(14, 86), "c", into, over, over, over, over, over, over, over), "at 81 code 0", "at 83 code 0", `at 85 code 0 says ["deep 1"]`, "at 86 code 0", `at 95 code 0 says ["deep 0" "up 0"]`, `at 97 code 0 says ["up 1"]`, `at 102 code 0 says ["c 1"]`, "at 103 code 0", "at 103 code 0")
	checkDeep(t, "out", deepEvents(onLine(14, 86), "c", into, into, into, into, out, out, out, out, out, out), "at 81 code 0", "at 83 code 0", `at 85 code 0 says ["deep 1"]`, "at 86 code 0", "at 88 code 0", `at 94 code 0 says ["deep 0" "up 0"]`, `at 98 code 0 says ["up 1"]`, `at 100 code 0 says ["c 1"]`, "at 101 code 0", "at 103 code 0", "at 103 code 0")
	checkDeep(t, "out of where a call was closed", deepEvents(onLine(12, 75), "c", out, over, into), `at 93 code 0 says ["deep 1" "deep 0" "up 0"]`, "at 94 code 0", "at 95 code 0", `at 97 code 0 says ["up 1"]`)
	checkDeep(t, "from a call", deepEvents(onCall(12), "c", on, out, over), "at 82 code 0", `at 87 code 0 says ["deep 1"]`, `at 94 code 0 says ["deep 0" "up 0"]`, "at 95 code 0")
	// Steps are no matter of stops, and stops none of steps.
	checkDeep(t, "over a stop", deepEvents(onLine(12, 72), "c", into, into, over, on), "at 83 code 0", `at 85 code 0 says ["deep 1"]`, "at 86 code 0", `at 95 code 0 says ["deep 0" "up 0"]`, `at 103 code 0 says ["up 1" "c 1"]`)
	checkDeep(t, "out over a stop", deepEvents(onLine(12, 72), "c", out, on), "at 83 code 0", `at 98 code 0 says ["deep 1" "deep 0" "up 0" "up 1"]`, `at 103 code 0 says ["c 1"]`)
}

// P13: steps with several tasks: each goes on in the task that runs where it begins. Moments 103 to 147 are those of a message on t
// behind one on c; 117 resumes task 1, which runs from 118 to 140.
func TestHouseStepsOfTasks(t *testing.T) {
	into, over, out, on := ev(impl.HInto), ev(impl.HOver), ev(impl.HOut), ev(impl.HGo)
	all := `["deep 1" "deep 0" "up 0" "up 1" "true 2"]`
	check := func(told string, stop impl.Stop, then []impl.Event, want ...string) {
		t.Helper()
		events := append([]impl.Event{ev(impl.HBegin), evSay("c", "x"), evStop(stop), evSay("t", "y")}, then...)
		checkShown(t, told, answersTold(checkPlay(t, told, deepHost(), events...)[3:]), want)
	}
	check("into, of task 0", onLine(15, 90), []impl.Event{into, into, into}, `at 117 code 0 says ["before"]`, "at 143 code 0 says "+all, `at 147 code 0 says ["after"]`, "at 148 code 0")
	check("over, of task 0", onLine(15, 90), []impl.Event{over, over}, `at 117 code 0 says ["before"]`, "at 143 code 0 says "+all, `at 147 code 0 says ["after"]`)
	check("out, of task 0", onLine(15, 90), []impl.Event{out, out, out}, `at 117 code 0 says ["before"]`, `at 145 code 0 says ["deep 1" "deep 0" "up 0" "up 1" "true 2" "after"]`, "at 146 code 0", "at 148 code 0")
	check("into, of task 1", onLine(13, 80), []impl.Event{into, into}, `at 122 code 0 says ["before"]`, "at 124 code 0", `at 126 code 0 says ["deep 1"]`)
	check("over, of task 1", onLine(13, 80), []impl.Event{over, over}, `at 122 code 0 says ["before"]`, `at 140 code 0 says ["deep 1" "deep 0" "up 0" "up 1"]`, `at 148 code 0 says ["true 2" "after"]`)
	check("out, of task 1", onLine(13, 80), []impl.Event{into, out, out}, `at 122 code 0 says ["before"]`, "at 124 code 0", `at 139 code 0 says ["deep 1" "deep 0" "up 0" "up 1"]`, `at 148 code 0 says ["true 2" "after"]`)
	check("out, of a fn that never ends", onLine(13, 79), []impl.Event{out}, `at 121 code 0 says ["before"]`, `at 148 code 0 says ["deep 1" "deep 0" "up 0" "up 1" "true 2" "after"]`)
	check("over to a later turn", onLine(13, 81), []impl.Event{on, evSay("t", "yy"), over, over}, `at 140 code 0 says ["before" "deep 1" "deep 0" "up 0" "up 1"]`, `at 148 code 0 says ["true 2" "after"]`, `at 183 code 0 says ["before" "deep 1" "deep 0" "up 0" "up 1"]`, `at 191 code 0 says ["true 3" "after"]`, "at 191 code 0")
}

// P13: an error that leaves calls, tasks that end by one, and stops at all that is thrown.
func TestHouseStepsOfErrors(t *testing.T) {
	out, on, into := ev(impl.HOut), ev(impl.HGo), ev(impl.HInto)
	deep := `says ["deep 1" "deep 0" "up 0" "up 1"]`
	checkDeep(t, "throws", deepEvents(impl.Stop{Kind: impl.OnThrow}, "e", on, on, on, on), "at 100 code 0 "+deep, `at 108 code 0 says ["caught x"]`, "at 112 code 0", `at 120 code 0 says ["error off fn:101 guard:45 fn:64 main:105"]`, "at 120 code 0")
	checkDeep(t, "into behind a throw", deepEvents(impl.Stop{Kind: impl.OnThrow}, "e", into, into), "at 100 code 0 "+deep, "at 102 code 0", `at 104 code 0 says ["caught x"]`)
	checkDeep(t, "out of a task by an error", deepEvents(onLine(17, 100), "e", out, into), `at 107 code 0 says ["deep 1" "deep 0" "up 0" "up 1" "caught x"]`, "at 109 code 0", `at 120 code 0 says ["error off fn:101 guard:45 fn:64 main:105"]`)
	checkDeep(t, "out by an error", deepEvents(onLine(16, 101), "e", out, out, into), `at 111 code 0 says ["deep 1" "deep 0" "up 0" "up 1" "caught x"]`, "at 113 code 0", `at 118 code 0 says ["error off fn:101 guard:45 fn:64 main:105"]`, "at 119 code 0")
}

// P13: a stop at the moment from which a stimulus goes on is not met again; one that holds at the last moment of all is.
func TestHouseStopsAtTheLastMoment(t *testing.T) {
	a := checkAnswers(t, "waiting", counterHost(), []impl.Event{evStop(onLine(10, 60)), ev(impl.HGo), ev(impl.HTime), evN(impl.HTime, 1), ev(impl.HGo), evN(impl.HTime, 2), ev(impl.HGo), ev(impl.HGo), ev(impl.HGo), evN(impl.HCount, 0)},
		"code 0", "code 0", "code 0", "code 0", "code 0", "code 0", "code 0", "code 0", "code 0", "code 0 num 4")
	checkAnswerPlaces(t, "waiting", a, 30, 30, 30, 37, 38, 45, 53, 54, 54, 54)
	// The next moment is the first of the new ones.
	a = checkAnswers(t, "the first new one", counterHost(), []impl.Event{evStop(onLine(10, 61)), ev(impl.HBegin), evN(impl.HCount, 0), ev(impl.HGo), evN(impl.HCount, 0)}, "code 0", "code 0", "code 0 num 1", `code 0 says ["once" "7"]`, "code 0 num 1")
	checkAnswerPlaces(t, "the first new one", a, 30, 30, 30, 79, 79)
}

// P13: of several stops the first that holds; two at one moment are one.
func TestHouseStopsSeveral(t *testing.T) {
	checkDeep(t, "several", append(deepEvents(onLine(12, 74), "c", ev(impl.HGo), ev(impl.HGo)), evStop(onCall(12)), evStop(onLine(14, 86)), evSay("c", ""), ev(impl.HGo), ev(impl.HGo), ev(impl.HGo)),
		`at 91 code 0 says ["deep 1" "deep 0"]`, `at 95 code 0 says ["up 0"]`, `at 103 code 0 says ["up 1" "c 1"]`, "at 103 code 0 num 1", "at 103 code 0 num 2", "at 116 code 0", "at 117 code 0", `at 121 code 0 says ["deep 0"]`, `at 129 code 0 says ["up 0" "c 0"]`)
	// Two watches that hold at one moment: neither holds again at the next, though the house stopped only once.
	h := hostOf("a", lined("let x, y = 1, 1", "x, y = 2, 2", "print(x)", "y = 3", "print(y)"))
	a := checkPlay(t, "two watches", h, evStop(onWatch(11, "x")), evStop(onWatch(11, "y")), ev(impl.HBegin), ev(impl.HGo), ev(impl.HGo), ev(impl.HGo), evN(impl.HCount, 0), evN(impl.HCount, 1))
	checkShown(t, "two watches", answersTold(a[2:]), []string{"at 48 code 0", "at 49 code 0", `at 52 code 0 says ["2"]`, `at 60 code 0 says ["3"]`, "at 60 code 0 num 2", "at 60 code 0 num 3"})
	checkPlay(t, "two watches, the other way", h, evStop(onWatch(11, "y")), evStop(onWatch(11, "x")), ev(impl.HBegin), ev(impl.HGo), ev(impl.HGo), ev(impl.HGo), evN(impl.HCount, 0), evN(impl.HCount, 1))
}

// P13: a watch may hold at what is printed: it is said on the way there, and not again on the way from there.
func TestHouseStopsAtWhatIsSaid(t *testing.T) {
	h := hostOf("a", lined("let x = 1", "fn f() {x = 2}", "print(\"said\", f())", "print(3)"))
	a := checkAnswers(t, "a watch", h, []impl.Event{evStop(onWatch(11, "x")), ev(impl.HBegin), ev(impl.HGo), evValue("x"), ev(impl.HGo)}, "code 0", "code 0", `code 0 says ["said"]`, `code 0 text "2"`, `code 0 says ["3"]`)
	checkAnswerPlaces(t, "a watch", a, 29, 48, 54, 54, 63)
}

// P13: as many stops as there may be, and one more; those behind one that goes get numbers one less.
func TestHouseStopsMost(t *testing.T) {
	var events []impl.Event
	var want []string
	for i := range 20 {
		events, want = append(events, evStop(onLine(11, 71+i))), append(want, fmt.Sprintf("code 0 num %d", i))
	}
	want[0] = "code 0"
	full := slices.Concat(events, []impl.Event{evStop(onCall(5)), evStop(onLine(11, 71)), evN(impl.HClear, 19), evN(impl.HClear, 19), evStop(onCall(12)), evStop(onCall(12)), evN(impl.HClear, 0), evN(impl.HCount, 18), evN(impl.HCount, 19), evN(impl.HClear, 0), evN(impl.HClear, 18), evN(impl.HClear, 17)})
	checkAnswers(t, "most stops", counterHost(), full, append(slices.Clone(want), "code 2", "code 2", "code 0", "code 2", "code 0 num 19", "code 2", "code 0", "code 0", "code 2", "code 0", "code 2", "code 0")...)
	// The stop that was refused is not there; the twentieth is.
	a := checkPlay(t, "a stop too many", counterHost(), slices.Concat(events[:19], []impl.Event{evStop(onCall(5)), evStop(onCall(13)), ev(impl.HBegin)}, slices.Repeat([]impl.Event{ev(impl.HGo)}, 5))...)
	checkAnswerPlaces(t, "a stop too many", a[21:], 48, 49, 50, 53, 79, 79)
}

// P13: the first, the last, one in the midst, and ones that are not there go.
func TestHouseStopsCleared(t *testing.T) {
	stops := []impl.Event{evStop(onCall(5)), evStop(onCall(13)), evStop(onLine(11, 71))}
	for n, places := range map[int][]int{0: {48, 64, 79}, 1: {48, 50, 79}, 2: {50, 64, 79}, 3: {48, 50, 64}, 19: {48, 50, 64}} {
		a := checkPlay(t, fmt.Sprint("clear ", n), counterHost(), append(slices.Clone(stops), evN(impl.HClear, n), ev(impl.HBegin), ev(impl.HGo), ev(impl.HGo), evN(impl.HCount, 0), evN(impl.HCount, 1), evN(impl.HCount, 2), evN(impl.HClear, 2))...)
		code := 0
		if n > 2 {
			code = 2
		}
		if a[3].Code != code || a[7].Code != 0 || a[8].Code != 0 || a[9].Code != 2-code || a[10].Code != 2-code {
			t.Errorf("clear %d: %v", n, answersTold(a))
		}
		checkAnswerPlaces(t, fmt.Sprint("clear ", n), a[4:7], places...)
	}
	checkAnswers(t, "all cleared", counterHost(), append(slices.Clone(stops), evN(impl.HClear, 1), evN(impl.HClear, 1), evN(impl.HClear, 1), evN(impl.HClear, 0), evN(impl.HClear, 0), evN(impl.HCount, 0), evStop(onCall(13)), ev(impl.HBegin)),
		"code 0", "code 0 num 1", "code 0 num 2", "code 0", "code 0", "code 2", "code 0", "code 2", "code 2", "code 0", "code 0")
}

// P13: how often a stop held: up to the place, the moment at which it holds counted in, whenever the stop came.
func TestHouseCounts(t *testing.T) {
	count := evN(impl.HCount, 0)
	a := checkPlay(t, "calls of deep", deepHost(), deepEvents(onCall(12), "c", count, ev(impl.HInto), count, ev(impl.HGo), count, ev(impl.HInto), count, ev(impl.HGo), count, evSay("c", ""), count, ev(impl.HGo), count)...)
	checkShown(t, "calls of deep", answersTold(a[2:]), []string{"at 82 code 0", "at 82 code 0 num 1", "at 83 code 0", "at 83 code 0 num 1", `at 87 code 0 says ["deep 1"]`, "at 87 code 0 num 2", "at 88 code 0", "at 88 code 0 num 2",
		`at 103 code 0 says ["deep 0" "up 0" "up 1" "c 1"]`, "at 103 code 0 num 2", "at 117 code 0", "at 117 code 0 num 3", `at 129 code 0 says ["deep 0" "up 0" "c 0"]`, "at 129 code 0 num 3"})
	a = checkPlay(t, "a stop that comes late", deepHost(), ev(impl.HBegin), evSay("c", "xx"), evStop(onCall(12)), count, evStop(onWatch(12, "n")), evN(impl.HCount, 1), evStop(onLine(299, 1)), evN(impl.HCount, 2), evN(impl.HCount, 3))
	checkShown(t, "a stop that comes late", answersTold(a[3:]), []string{"at 112 code 0 num 3", "at 112 code 0 num 1", "at 112 code 0 num 3", "at 112 code 0 num 2", "at 112 code 0", "at 112 code 2"})
}

// P13: stops of each kind, in sessions with tasks and errors, gone on from to the end.
func TestHouseStopsOfAllKinds(t *testing.T) {
	h := deepHost()
	lines := impl.SessionLines([]impl.Event{ev(impl.HBegin), evSay("t", "y"), evSay("e", "z")})
	moments, _ := plainMoments(h, lines)
	for n, s := range some(seenStops(moments), 40) {
		t.Run(fmt.Sprintf("%+v", s), func(t *testing.T) {
			t.Parallel()
			on := slices.Repeat([]impl.Event{ev(impl.HGo)}, 8)
			events := slices.Concat([]impl.Event{ev(impl.HBegin), evStop(s), evSay("t", "y")}, on, []impl.Event{evN(impl.HClear, n%2), evSay("e", "z"), evN(impl.HCount, 0)}, on, []impl.Event{evN(impl.HCount, 0), ev([]int{impl.HInto, impl.HOver, impl.HOut}[n%3])})
			checkPlay(t, fmt.Sprintf("stop %+v", s), h, events...)
		})
	}
}
