package tests

import (
	"fmt"
	"math/rand"
	"slices"
	"strconv"
	"strings"
	"testing"

	"loop.example/heddle/impl"
)

// lookers: events between others that change nothing of what these are answered.
func lookers(t *testing.T) []impl.Event {
	t.Helper()
	return []impl.Event{
		evN(impl.HPace, 3), evN(impl.HWhere, 0), evN(impl.HWhere, 1), ev(impl.HVars), evValue("x"), evValue("no such name"), evN(impl.HCount, 0), evN(impl.HCount, 19), ev(impl.HLines), ev(impl.HLay), evN(impl.HPace, 0), evN(impl.HPace, 1000),
		evText(impl.HCode, "no code"), evText(impl.HCode, string(imageOf(t, "print(\"foreign\")\nthrow 1"))), {Op: 99}, {Op: impl.HSpoil, N: 9000, M: 3},
	}
}

// p14Scripts: stimuli, and goings on by stops and steps.
func p14Scripts() map[string][]impl.Event {
	return map[string][]impl.Event{
		"said":    {ev(impl.HBegin), evSay("c", "x"), evSay("t", "y"), evN(impl.HTime, 2), evSay("e", "z"), evText(impl.HInput, "in"), evSay("d", ""), evSay("c", "")},
		"stopped": {evStop(onCall(12)), ev(impl.HBegin), evSay("c", "x"), ev(impl.HGo), ev(impl.HInto), ev(impl.HOver), ev(impl.HOut), ev(impl.HGo), evSay("t", "y"), ev(impl.HGo), evN(impl.HClear, 0), ev(impl.HGo), evSay("e", "z")},
		"too far": {ev(impl.HGo), ev(impl.HInto), evN(impl.HTime, 50), ev(impl.HBegin), evStop(onLine(10, 60)), evSay("t", "x"), evSay("t", "y"), ev(impl.HGo), evN(impl.HTime, 50)},
	}
}

// P14: one event that looks, counts, lays down, sets a pace or runs foreign code at each place between others, and all of them.
func TestLookingChangesNothing(t *testing.T) {
	t.Parallel()
	for told, events := range p14Scripts() {
		for name, h := range map[string]impl.Hosted{"deep": deepHost(), "counter": counterHost(), "few ticks": allowing(deepHost(), 150, 60, 20000)} {
			want := answersTold(impl.Play(h, events))
			for _, looker := range lookers(t) {
				var mixed []impl.Event
				for _, e := range events {
					mixed = append(mixed, looker, e)
				}
				answers := impl.Play(h, append(mixed, looker))
				var got []string
				for i := range events {
					got = append(got, answersTold(answers[2*i+1:2*i+2])...)
				}
				checkShown(t, told+", "+name+", with "+eventTold(looker), got, want)
			}
		}
	}
	h, events := deepHost(), p14Scripts()["said"][:3]
	want := answersTold(impl.Play(h, events))
	all := lookers(t)
	answers := checkPlay(t, "all of them", h, slices.Concat(all, events[:1], all, events[1:2], all[:12], events[2:3])...)
	n := len(all)
	checkShown(t, "all of them", answersTold([]impl.Answered{answers[n], answers[2*n+1], answers[2*n+14]}), want)
}

// P14: with stops, and going on from each, all is said that is said without them, and nothing else.
func TestStopsChangeNothingSaid(t *testing.T) {
	t.Parallel()
	h := deepHost()
	stimuli := []impl.Event{ev(impl.HBegin), evSay("c", "x"), evSay("t", "y"), evSay("e", "z")}
	plain := impl.Play(h, stimuli)
	moments, _ := plainMoments(h, impl.SessionLines(stimuli))
	stops := some(seenStops(moments), 60)
	rng := rand.New(rand.NewSource(204))
	for n, s := range stops {
		set := []impl.Stop{s}
		for range n % 3 {
			set = append(set, stops[rng.Intn(len(stops))])
		}
		var events []impl.Event
		for _, stop := range set {
			events = append(events, evStop(stop))
		}
		begins := []int{len(events)}
		for _, e := range stimuli {
			events = append(events, e)
			for range 6 {
				events = append(events, ev([]int{impl.HGo, impl.HGo, impl.HInto, impl.HOver, impl.HOut}[rng.Intn(5)]))
			}
			// Where there are still stops ahead they go, and come back.
			events = append(events, evN(impl.HClear, 0))
			for range len(set) - 1 {
				events = append(events, evN(impl.HClear, 0))
			}
			events = append(events, ev(impl.HGo))
			if len(begins) < 2 {
				events = append(events, evStop(s))
			}
			begins = append(begins, len(events))
		}
		answers := checkPlay(t, fmt.Sprintf("stops %+v", set), h, events...)
		if len(answers) != len(events) {
			t.Fatalf("%d events, %d answers", len(events), len(answers))
		}
		for i := range stimuli {
			var said []string
			for _, a := range answers[begins[i]:begins[i+1]] {
				said = append(said, a.Says...)
			}
			checkShown(t, fmt.Sprintf("stops %+v, stimulus %d", set, i), said, plain[i].Says)
			if got := answers[begins[i+1]-1].Place; got != plain[i].Place {
				t.Errorf("stops %+v, stimulus %d: at %d, want %d", set, i, got, plain[i].Place)
			}
		}
	}
}

// p15Parts: what is done ahead of a laying-down, and behind it.
func p15Parts() (ahead, behind map[string][]impl.Event) {
	ahead = map[string][]impl.Event{
		"nothing":        {},
		"a begin":        {ev(impl.HBegin)},
		"said":           {ev(impl.HBegin), evSay("c", "x"), evN(impl.HTime, 1), evSay("t", "x")},
		"at a stop":      {ev(impl.HBegin), evStop(onLine(12, 74)), evSay("c", "x")},
		"in a task":      {ev(impl.HBegin), evN(impl.HPace, 7), evStop(onLine(13, 80)), evStop(impl.Stop{Kind: impl.OnThrow}), evSay("t", "x")},
		"at the last":    {evStop(onLine(10, 60)), ev(impl.HBegin)},
		"before a begin": {evText(impl.HInput, "in"), evN(impl.HTime, 3)},
	}
	behind = map[string][]impl.Event{
		"more":  {ev(impl.HGo), evSay("c", "y"), ev(impl.HGo), ev(impl.HGo), evSay("t", "y"), ev(impl.HLines), ev(impl.HBegin)},
		"looks": {evN(impl.HWhere, 0), evN(impl.HWhere, 1), ev(impl.HVars), evN(impl.HCount, 0), evN(impl.HCount, 1), ev(impl.HInto), ev(impl.HOver), ev(impl.HOut), ev(impl.HGo), ev(impl.HGo), evSay("e", "z")},
		"stops": {evStop(onCall(12)), ev(impl.HGo), evSay("e", "z"), ev(impl.HGo), evN(impl.HClear, 0), ev(impl.HGo), evSay("c", "z")},
	}
	return ahead, behind
}

// between: what is done behind a laying-down and is gone when that is taken up.
func between() []impl.Event {
	return []impl.Event{ev(impl.HGo), ev(impl.HGo), evN(impl.HClear, 0), evSay("c", "lost"), evStop(onCall(5)), evN(impl.HPace, 99), evN(impl.HTime, 2), ev(impl.HInto)}
}

// behindThat: what the last events are answered behind the first ones.
func behindThat(h impl.Hosted, first, last []impl.Event) []string {
	return answersTold(impl.Play(h, slices.Concat(first, last))[len(first):])
}

// P15: what is taken up goes on as behind its laying-down, whatever was done between; again and again.
func TestTakenUpGoesOn(t *testing.T) {
	t.Parallel()
	aheads, behinds := p15Parts()
	h, take := deepHost(), []impl.Event{ev(impl.HTake)}
	for ahead, first := range aheads {
		laid := append(slices.Clone(first), ev(impl.HLay))
		for behind, last := range behinds {
			told := ahead + ", " + behind
			want := behindThat(h, laid, last)
			checkShown(t, told, behindThat(h, slices.Concat(laid, take), last), want)
			checkShown(t, told+", taken up twice", behindThat(h, slices.Concat(laid, take, take), last), want)
			checkShown(t, told+", with something between", behindThat(h, slices.Concat(laid, between(), take), last), want)
			checkShown(t, told+", with itself between", behindThat(h, slices.Concat(laid, last, take), last), want)
			checkPlay(t, told, h, slices.Concat(laid, between(), take, last)...)
		}
	}
}

// P15: the power goes behind each number of steps: all goes on as behind the last laying-down, or as behind this one; as behind this one
// when its head was kept.
func TestCutGoesOn(t *testing.T) {
	aheads, behinds := p15Parts()
	h := deepHost()
	for ahead, first := range aheads {
		t.Run(ahead, func(t *testing.T) {
			t.Parallel()
			laid := append(slices.Clone(first), ev(impl.HLay))
			more := slices.Concat(laid, between())
			twice := append(slices.Clone(more), ev(impl.HLay))
			for behind, last := range behinds {
				old, now := behindThat(h, laid, last), behindThat(h, twice, last)
				sorts := [2]int{}
				for n := range 9 {
					for kept, list := range map[string][]bool{"none": nil, "all": {true, true, true, true}, "the second": {false, true}} {
						cut := append(slices.Clone(more), evCut(n, list...))
						answers := impl.Play(h, slices.Concat(cut, last))
						told := fmt.Sprint(ahead, ", ", behind, ", cut behind ", n, ", kept ", kept)
						gen := answers[len(cut)-1].Num
						if gen < 1 || gen > 2 {
							t.Fatalf("%s: gen %d", told, gen)
						}
						sorts[gen-1]++
						checkShown(t, told, answersTold(answers[len(cut):]), [][]string{old, now}[gen-1])
					}
				}
				if sorts[0] == 0 || sorts[1] == 0 {
					t.Errorf("%s, %s: %v", ahead, behind, sorts)
				}
			}
		})
	}
}

// P15: behind a cut that leaves nothing whole all goes on as at the very beginning.
func TestCutBeginsAnew(t *testing.T) {
	t.Parallel()
	aheads, behinds := p15Parts()
	h := deepHost()
	for ahead, first := range aheads {
		for behind, last := range behinds {
			want := behindThat(h, nil, last)
			for _, cut := range []impl.Event{evCut(0), evCut(1), evCut(1, true), evCut(2)} {
				events := append(slices.Clone(first), cut)
				checkShown(t, fmt.Sprint(ahead, ", ", behind, ", cut behind ", cut.N), behindThat(h, events, last), want)
				if a := impl.Play(h, events); a[len(events)-1].Code != 9 {
					t.Errorf("%s: %v", ahead, a[len(events)-1])
				}
			}
		}
	}
}

// chainHost: modules each of which imports the next one twice; with a ring the last one imports the first.
func chainHost(count int, ring bool) impl.Hosted {
	var sources []string
	for n := 1; n <= count; n++ {
		lines := []string{fmt.Sprintf("print(%q)", fmt.Sprint("begin ", n))}
		next := n + 1
		if n == count && ring {
			next = 1
		}
		if n < count || ring {
			lines = append(lines, fmt.Sprintf("try {print(import(\"m%d\"), import(\"./m%d\"))} catch e {print(e.code, e.name)}", next, next))
		}
		sources = append(sources, fmt.Sprint("m", n), lined(append(lines, fmt.Sprintf("print(%q)", fmt.Sprint("end ", n)), fmt.Sprint("return ", n))...))
	}
	return hostOf(sources...)
}

// P16: modules in a chain, with a ring or without, are run once, however often they are imported and begun.
func TestModulesRunOnce(t *testing.T) {
	t.Parallel()
	for count := 1; count <= 9; count++ {
		for _, ring := range []bool{false, true} {
			var want []string
			for n := 1; n <= count; n++ {
				want = append(want, fmt.Sprint("begin ", n))
			}
			if ring {
				want = append(want, "ring m1")
			}
			for n := count; n >= 1; n-- {
				if n < count {
					want = append(want, fmt.Sprint(n+1, " ", n+1))
				}
				want = append(want, fmt.Sprint("end ", n))
			}
			told := fmt.Sprint(count, " modules, ring ", ring)
			a := checkPlay(t, told, chainHost(count, ring), ev(impl.HBegin), ev(impl.HBegin), evN(impl.HTime, 1), ev(impl.HBegin))
			checkShown(t, told, a[0].Says, want)
			if len(a[1].Says)+len(a[2].Says)+len(a[3].Says) > 0 {
				t.Errorf("%s: %v", told, answersTold(a[1:]))
			}
		}
	}
}

// P16: a ring that nobody catches leaves all modules of it failed, each with its reason, and none is run again.
func TestModulesFailOnce(t *testing.T) {
	for count := 1; count <= 9; count++ {
		var sources []string
		for n := 1; n <= count; n++ {
			sources = append(sources, fmt.Sprint("m", n), fmt.Sprintf("print(%d)\nimport(\"m%d\")\nprint(\"never\")", n, n%count+1))
		}
		a := checkPlay(t, fmt.Sprint("ring of ", count), hostOf(sources...), ev(impl.HBegin), ev(impl.HBegin))
		var want []string
		for n := 1; n <= count; n++ {
			want = append(want, fmt.Sprint(n))
		}
		if len(a[0].Says) != count+1 || !slices.Equal(a[0].Says[:count], want) || !strings.HasPrefix(a[0].Says[count], "error ring import:18 guard:45") || len(a[1].Says) != 1 || !strings.HasPrefix(a[1].Says[0], "error failed import:8 guard:45") {
			t.Errorf("ring of %d: %v", count, answersTold(a))
		}
	}
}

// putOff: a module that puts things off by these times, and what is said at each tick.
func putOff(times []int) (impl.Hosted, [][]string) {
	var lines []string
	said := make([][]string, 12)
	for i, at := range times {
		lines = append(lines, fmt.Sprintf("after(%d, fn() {print(%d, now())})", at, i))
	}
	for at := range 10 {
		for i, due := range times {
			if due == at {
				tick := max(at, 1)
				said[tick] = append(said[tick], fmt.Sprint(i, " ", tick))
			}
		}
	}
	return hostOf("a", lined(lines...)), said
}

// P16: what is put off is done by its time, and among those of one time by the order of asking; time in one piece is time in two.
func TestPutOff(t *testing.T) {
	for count := 1; count <= 12; count++ {
		t.Run(fmt.Sprint(count, " things"), func(t *testing.T) {
			t.Parallel()
			rng := rand.New(rand.NewSource(205 + int64(count)))
			for round := range 3 {
				var times []int
				for i := range count {
					times = append(times, []int{rng.Intn(10), rng.Intn(3), (9 + round*i) % 10}[(round+count)%3])
				}
				checkPutOff(t, times)
			}
		})
	}
}

func checkPutOff(t *testing.T, times []int) {
	t.Helper()
	h, said := putOff(times)
	told := fmt.Sprint("times ", times)
	ticks := slices.Repeat([]impl.Event{evN(impl.HTime, 1)}, 10)
	a := checkPlay(t, told, h, append([]impl.Event{ev(impl.HBegin)}, ticks...)...)
	for tick := range 10 {
		checkShown(t, fmt.Sprint(told, ", tick ", tick+1), a[tick+1].Says, said[tick+1])
	}
	whole := impl.Play(h, []impl.Event{ev(impl.HBegin), evN(impl.HTime, 10)})[1]
	checkShown(t, told, whole.Says, slices.Concat(said...))
	for _, n := range []int{0, 1, 2 + len(times)%7, 9, 10} {
		parts := impl.Play(h, []impl.Event{ev(impl.HBegin), evN(impl.HTime, n), evN(impl.HTime, 10-n)})
		checkShown(t, fmt.Sprint(told, ", in two at ", n), slices.Concat(parts[1].Says, parts[2].Says), whole.Says)
		if parts[2].Place != whole.Place {
			t.Errorf("%s, in two at %d: at %d, want %d", told, n, parts[2].Place, whole.Place)
		}
	}
}

// P16: time in one piece is time in two, also when what is done puts off more, throws, or hears what is said behind it.
func TestTimeInTwo(t *testing.T) {
	t.Parallel()
	h := hostOf("a", lined(
		`fn again(n) {`, `	print(n, now())`, `	if n > 0 {after(n, fn() {again(n - 1)})}`, `}`,
		`after(2, fn() {again(3)})`, `after(2, fn() {throw {.code = now()}})`, `after(0, fn() {on("c", fn(x) {print("heard", x, now())})})`, `after(5, fn() {after(0, fn() {print("same", now())})})`))
	for whole := range 12 {
		want := impl.Play(h, []impl.Event{ev(impl.HBegin), evN(impl.HTime, whole), evSay("c", "x"), ev(impl.HLines)})
		for _, n := range []int{0, whole / 3, whole / 2, whole} {
			a := checkPlay(t, fmt.Sprint(whole, " in two at ", n), h, ev(impl.HBegin), evN(impl.HTime, n), evN(impl.HTime, whole-n), evSay("c", "x"), ev(impl.HLines))
			checkShown(t, fmt.Sprint(whole, " in two at ", n), slices.Concat(a[1].Says, a[2].Says), want[1].Says)
			checkShown(t, fmt.Sprint(whole, " in two at ", n), answersTold(a[3:]), answersTold(want[2:]))
		}
	}
	checkAnswers(t, "written out", h, []impl.Event{ev(impl.HBegin), evN(impl.HTime, 2), evN(impl.HTime, 3), evN(impl.HTime, 3), evN(impl.HTime, 50)}, "code 0", `code 0 says ["3 2" "error 2 fn:76 guard:45 tick:55 fn:62 main:81"]`, `code 0 says ["2 5" "same 5"]`, `code 0 says ["1 7" "0 8"]`, "code 0")
}

// P16: handlers hear what is said on their channels, the last one that was set, with its text; others do not.
func TestHandlersHear(t *testing.T) {
	names := []string{"a", "b", "", "a b", "\n", "begin", "\xff"}
	var lines []string
	for i, name := range names {
		lines = append(lines, fmt.Sprintf("on(%s, fn(x) {print(%d, x)})", impl.Quote(name), i))
	}
	lines = append(lines, `on("b", fn(x) {`, `	print("other", x)`, `	on("a", nil)`, `})`, `on("c", fn(x) {print(read(), x, read())})`)
	h := hostOf("a", lined(lines...))
	for i, name := range names {
		want := fmt.Sprint(i, " text")
		if name == "b" {
			want = "other text"
		}
		a := checkPlay(t, strconv.Quote(name), h, evSay(name, "text"), ev(impl.HBegin), evSay(name, "text"), evSay(name+"x", "text"), evSay(name, ""))
		checkShown(t, strconv.Quote(name), slices.Concat(a[0].Says, a[1].Says, a[2].Says, a[3].Says, a[4].Says), []string{"nobody hears " + name, want, "nobody hears " + name + "x", strings.TrimSuffix(want, "text")})
	}
	checkAnswers(t, "several", h, []impl.Event{ev(impl.HBegin), evSay("a", "1"), evSay("b", "2"), evSay("a", "3"), evSay("b", "4"), evSay("c", "5"), evText(impl.HInput, "one"), evText(impl.HInput, "two"), evText(impl.HInput, "tick"), evSay("c", "6"), evSay("c", "7")},
		"code 0", `code 0 says ["0 1"]`, `code 0 says ["other 2"]`, `code 0 says ["nobody hears a"]`, `code 0 says ["other 4"]`, `code 0 says ["nil 5 nil"]`, "code 0", "code 0", "code 0", `code 0 says ["one 6 two"]`, `code 0 says ["tick 7 nil"]`)
}
