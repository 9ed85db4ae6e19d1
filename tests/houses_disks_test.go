package tests

import (
	"fmt"
	"slices"
	"strings"
	"testing"

	"loop.example/heddle/impl"
)

// P13: laying down, one behind the other, and taking up the last one.
func TestHouseLays(t *testing.T) {
	lay, take := ev(impl.HLay), ev(impl.HTake)
	a := checkAnswers(t, "laid", counterHost(), []impl.Event{lay, lay, ev(impl.HBegin), lay, evSay("c", "x"), take, evSay("c", "y"), lay, lay, take, evSay("c", "z"), take, take},
		"code 0 num 1", "code 0 num 2", `code 0 says ["once" "7"]`, "code 0 num 3", `code 0 says ["1 x"]`, "code 0 num 3", `code 0 says ["1 y"]`, "code 0 num 4", "code 0 num 5", "code 0 num 5", `code 0 says ["2 z"]`, "code 0 num 5", "code 0 num 5")
	checkAnswerPlaces(t, "laid", a, 30, 30, 79, 79, 97, 79, 97, 97, 97, 97, 115, 97, 97)
	checkAnswers(t, "most layings", counterHost(), slices.Repeat([]impl.Event{lay}, 60)[:60], func() []string {
		var want []string
		for n := range 60 {
			want = append(want, fmt.Sprint("code 0 num ", n+1))
		}
		return want
	}()...)
}

// P13: what is taken up: the place, the stops and the lines; what was there is gone.
func TestHouseTakes(t *testing.T) {
	take := ev(impl.HTake)
	a := checkAnswers(t, "at a stop", counterHost(), []impl.Event{evStop(onLine(12, 74)), ev(impl.HBegin), evSay("c", "x"), ev(impl.HLay), evN(impl.HClear, 0), ev(impl.HGo), evSay("c", "y"), evStop(onCall(2)), evStop(onCall(3)), take, evN(impl.HCount, 0), evN(impl.HCount, 1), evValue("x"), ev(impl.HGo), evSay("c", "z"), ev(impl.HGo)},
		"code 0", `code 0 says ["once" "7"]`, "code 0", "code 0 num 1", "code 0", `code 0 says ["1 x"]`, `code 0 says ["2 y"]`, "code 0", "code 0 num 1", "code 0 num 1", "code 0 num 1", "code 2", `code 0 text "x"`, `code 0 says ["1 x"]`, "code 0", `code 0 says ["2 z"]`)
	checkAnswerPlaces(t, "at a stop", a, 30, 79, 92, 92, 92, 97, 115, 115, 115, 92, 92, 92, 92, 97, 110, 115)
	checkAnswers(t, "a blank disk", counterHost(), []impl.Event{take, ev(impl.HBegin), take, evSay("c", "x"), take}, "code 9", `code 0 says ["once" "7"]`, "code 9", `code 0 says ["1 x"]`, "code 9")
	// More stops, and then fewer: all of what was laid down comes back, nothing of the rest stays.
	checkAnswers(t, "stops", counterHost(), []impl.Event{ev(impl.HLay), evStop(onCall(12)), evN(impl.HPace, 9), take, evN(impl.HCount, 0), evStop(onCall(13)), ev(impl.HLay), evN(impl.HClear, 0), take, evN(impl.HCount, 0), evN(impl.HCount, 1)},
		"code 0 num 1", "code 0", "code 0", "code 0 num 1", "code 2", "code 0", "code 0 num 2", "code 0", "code 0 num 2", "code 0", "code 2")
}

// longLines: inputs that make a journal too large for an image.
func longLines() []impl.Event {
	return slices.Repeat([]impl.Event{evText(impl.HInput, strings.Repeat("l", 4000))}, 3)
}

// P13: a journal that has no image is not laid down; at a cut the power does not go then, and the disk stays as it was.
func TestHouseLaysNothing(t *testing.T) {
	events := slices.Concat([]impl.Event{ev(impl.HLay), ev(impl.HBegin)}, longLines(), []impl.Event{ev(impl.HLay), evCut(0), evCut(200), evSay("c", "x"), ev(impl.HLay), ev(impl.HTake), ev(impl.HLay)})
	a := checkAnswers(t, "too long", counterHost(), events, "code 0 num 1", `code 0 says ["once" "7"]`, "code 0", "code 0", "code 0", "code 8", "code 8", "code 8", `code 0 says ["1 x"]`, "code 8", "code 0 num 1", "code 0 num 2")
	checkAnswerPlaces(t, "too long", a, 30, 79, 85, 91, 97, 97, 97, 97, 115, 115, 30, 30)
	checkAnswers(t, "too long, on a blank disk", counterHost(), slices.Concat(longLines(), []impl.Event{evCut(0), ev(impl.HLay), ev(impl.HTake), ev(impl.HBegin)}), "code 0", "code 0", "code 0", "code 8", "code 8", "code 9", `code 0 says ["once" "7"]`)
	// Two of them are not too long.
	checkAnswers(t, "long", counterHost(), append(longLines()[:2], ev(impl.HLay), evCut(126), evCut(127), ev(impl.HTake)), "code 0", "code 0", "code 0 num 1", "code 0 num 1", "code 0 num 1", "code 0 num 1")
}

// keptSorts: which of the writes that wait are kept when the power goes.
func keptSorts(count int) map[string][]bool {
	last := make([]bool, count)
	last[count-1] = true
	return map[string][]bool{
		"none": nil, "none named": make([]bool, count), "all": slices.Repeat([]bool{true}, count), "more than all": slices.Repeat([]bool{true}, 200), "the first": {true}, "all but the first": append([]bool{false}, slices.Repeat([]bool{true}, count-1)...),
		"each second": slices.Repeat([]bool{true, false}, count), "the last": last,
	}
}

// P13: the power goes behind each number of steps, and with writes of every sort kept: on a disk without a whole slot, with one, with two.
func TestHouseCuts(t *testing.T) {
	before := map[string][]impl.Event{
		"no slot":                  {ev(impl.HBegin)},
		"one slot":                 {ev(impl.HBegin), ev(impl.HLay), evSay("c", "x")},
		"two slots":                {ev(impl.HLay), ev(impl.HBegin), ev(impl.HLay), evSay("c", "x")},
		"three layings":            {ev(impl.HLay), ev(impl.HLay), ev(impl.HBegin), ev(impl.HLay), evSay("c", "x")},
		"two slots, one spoiled":   {ev(impl.HLay), ev(impl.HBegin), ev(impl.HLay), evSay("c", "x"), {Op: impl.HSpoil, N: 64 * 130, M: 1}},
		"two slots, both spoiled":  {ev(impl.HLay), ev(impl.HBegin), ev(impl.HLay), evSay("c", "x"), {Op: impl.HSpoil, N: 64 * 130, M: 1}, {Op: impl.HSpoil, N: 5, M: 1}},
		"one slot, spoiled":        {ev(impl.HBegin), ev(impl.HLay), evSay("c", "x"), {Op: impl.HSpoil, N: 0, M: 255}},
		"nothing but a first line": {},
	}
	for told, ahead := range before {
		t.Run(told, func(t *testing.T) {
			t.Parallel()
			for n := range 8 {
				for _, kept := range [][]bool{nil, {true}, {false, true, true}} {
					checkPlay(t, fmt.Sprint(told, ", cut behind ", n, ", kept ", kept), counterHost(), append(slices.Clone(ahead), evCut(n, kept...), evSay("c", "y"), ev(impl.HLay), ev(impl.HTake), evSay("c", "z"))...)
				}
			}
			checkPlay(t, told+", cut behind 200", counterHost(), append(slices.Clone(ahead), evCut(200), evSay("c", "y"), ev(impl.HLay), evCut(199, true), evSay("c", "z"))...)
		})
	}
}

// P13, P15: what a cut comes to, written out. The journal of a begin and a message is one block: the steps are the image, a Sync, the
// head, a Sync.
func TestHouseCutSteps(t *testing.T) {
	t.Parallel()
	check := func(told string, e impl.Event, ahead []impl.Event, code string, next string) {
		t.Helper()
		a := checkPlay(t, told, counterHost(), append(slices.Clone(ahead), e, evSay("c", "z"))...)
		wantTold(t, told, answerTold(a[len(ahead)]), code)
		wantTold(t, told, answerTold(a[len(ahead)+1]), next)
	}
	one := []impl.Event{ev(impl.HBegin), ev(impl.HLay), evSay("c", "x")}
	old, now := `code 0 says ["1 z"]`, `code 0 says ["2 z"]`
	for n := range 4 {
		check(fmt.Sprint("behind ", n), evCut(n), one, "code 0 num 1", old)
	}
	check("behind 4", evCut(4), one, "code 0 num 2", now)
	check("behind more than there are", evCut(5), one, "code 0 num 2", now)
	check("behind 200", evCut(200), one, "code 0 num 2", now)
	check("the head kept", evCut(3, true), one, "code 0 num 2", now)
	check("another kept", evCut(3, false, true), one, "code 0 num 1", old)
	check("the image kept", evCut(1, true), one, "code 0 num 1", old)
	check("the image and a Sync", evCut(2, true), one, "code 0 num 1", old)
	none := []impl.Event{ev(impl.HBegin), evSay("c", "x")}
	for n := range 4 {
		check(fmt.Sprint("anew, behind ", n), evCut(n), none, "code 9", `code 0 says ["nobody hears c"]`)
	}
	check("the first, behind 4", evCut(4), none, "code 0 num 1", now)
	check("the first, the head kept", evCut(3, true), none, "code 0 num 1", now)
	// Behind a cut that left nothing the house has its disk, and no lines, stops or pace.
	a := checkAnswers(t, "anew", counterHost(), []impl.Event{evStop(onCall(12)), evN(impl.HPace, 5), ev(impl.HBegin), evSay("c", "x"), evCut(1, true), evN(impl.HCount, 0), ev(impl.HTake), ev(impl.HBegin), evSay("c", "y"), ev(impl.HLay)},
		"code 0", "code 0", `code 0 says ["once" "7"]`, "code 0", "code 9", "code 2", "code 9", `code 0 says ["once" "7"]`, `code 0 says ["1 y"]`, "code 0 num 1")
	checkAnswerPlaces(t, "anew", a, 30, 30, 79, 90, 30, 30, 30, 79, 97, 97)
	// The disk is as it was: what was spoiled on it, and is mended, is there.
	spoil := impl.Event{Op: impl.HSpoil, N: 5, M: 1}
	checkAnswers(t, "anew, with its disk", counterHost(), []impl.Event{ev(impl.HBegin), ev(impl.HLay), spoil, evSay("c", "x"), evCut(0), spoil, evSay("c", "y"), ev(impl.HTake), evSay("c", "z")},
		`code 0 says ["once" "7"]`, "code 0 num 1", "code 0", `code 0 says ["1 x"]`, "code 9", "code 0", `code 0 says ["nobody hears c"]`, "code 0 num 1", `code 0 says ["1 z"]`)
	// The pace is 0 again: what is laid down then is spoiled into another journal with that.
	events := slices.Concat([]impl.Event{evN(impl.HPace, 5), evCut(0), ev(impl.HLay)}, respelt(t, impl.Journal{Place: 30}, impl.Journal{Place: 29}), []impl.Event{ev(impl.HTake)})
	if a := checkPlay(t, "anew, without a pace", counterHost(), events...); a[len(events)-1].Code != 0 || a[len(events)-1].Place != 29 {
		t.Errorf("anew, without a pace: %v", a[len(events)-1])
	}
}

// P13: with a long image a cut in the midst of it keeps some blocks: they are those of the slot that is not whole.
func TestHouseCutsLongImages(t *testing.T) {
	t.Parallel()
	h := hostOf("a", `on("c", fn(x) {print(read())})`)
	text := strings.Repeat("long", 60)
	events := func(e impl.Event) []impl.Event {
		return []impl.Event{ev(impl.HBegin), evText(impl.HInput, "one"+text), ev(impl.HLay), evText(impl.HInput, "two"+text), ev(impl.HLay), evText(impl.HInput, "three"+text), e, evSay("c", ""), evSay("c", ""), evSay("c", "")}
	}
	third := len(plainOps(plainBlank(), plainJournalImage(impl.Journal{Lines: []string{"begin", "input", "one" + text, "input", "two" + text, "input", "three" + text}, Place: 100})))
	for n := 0; n <= third+1; n++ {
		for kept, list := range keptSorts(14) {
			a := checkPlay(t, fmt.Sprint("cut behind ", n, ", kept ", kept), h, events(evCut(n, list...))...)
			gen, last := 2, fmt.Sprintf("code 0 says [%q]", "nil")
			if n >= third || n == third-1 && len(list) > 0 && list[0] {
				gen, last = 3, fmt.Sprintf("code 0 says [%q]", "three"+text)
			}
			if a[6].Num != gen || answerTold(a[9]) != last {
				t.Errorf("cut behind %d of %d, kept %s: %s, %s", n, third, kept, answerTold(a[6]), answerTold(a[9]))
			}
		}
	}
}

// P13: a byte of each part of the disk is spoiled: of the head, of the image, and where nothing is looked at.
func TestHouseSpoils(t *testing.T) {
	t.Parallel()
	ahead := []impl.Event{ev(impl.HBegin), ev(impl.HLay), evSay("c", "x")}
	image := len(plainJournalImage(impl.Journal{Lines: words("begin"), Place: 79}))
	check := func(told string, n int, good bool) {
		t.Helper()
		spoil := impl.Event{Op: impl.HSpoil, N: n, M: []int{1, 2, 16, 128, 255}[n%5]}
		a := checkPlay(t, told, counterHost(), append(slices.Clone(ahead), spoil, ev(impl.HTake), evSay("c", "y"), spoil, ev(impl.HTake), evSay("c", "z"))...)
		want := []string{"code 0", "code 9", `code 0 says ["2 y"]`, "code 0", "code 0 num 1", `code 0 says ["1 z"]`}
		if good {
			want[1], want[2] = "code 0 num 1", `code 0 says ["1 y"]`
		}
		var got []string
		for _, one := range a[3:] {
			got = append(got, answerTold(one))
		}
		checkShown(t, fmt.Sprint(told, ", byte ", n), got, want)
	}
	for n := range 64 {
		check("head", n, false)
	}
	for n := range image {
		check("image", 128+n, false)
	}
	for _, n := range []int{64, 127, 128 + image, 191, 192, 64 * 129, 64 * 130, 64*130 + 5, 258*64 - 1} {
		check("elsewhere", n, true)
	}
}

// P13: with two slots a spoiled one leaves the other, whichever is the newer.
func TestHouseSpoilsOneOfTwo(t *testing.T) {
	ahead := []impl.Event{ev(impl.HBegin), ev(impl.HLay), evSay("c", "x"), ev(impl.HLay), evSay("c", "y")}
	for n, want := range map[int][]string{
		64:       {"code 0 num 1", `code 0 says ["1 z"]`, "code 0 num 2"},
		64 * 130: {"code 0 num 1", `code 0 says ["1 z"]`, "code 0 num 2"},
		0:        {"code 0 num 2", `code 0 says ["2 z"]`, "code 0 num 3"},
		128:      {"code 0 num 2", `code 0 says ["2 z"]`, "code 0 num 3"},
	} {
		a := checkPlay(t, fmt.Sprint("byte ", n), counterHost(), append(slices.Clone(ahead), impl.Event{Op: impl.HSpoil, N: n, M: 16}, ev(impl.HTake), evSay("c", "z"), ev(impl.HLay), ev(impl.HTake))...)
		checkShown(t, fmt.Sprint("byte ", n), []string{answerTold(a[6]), answerTold(a[7]), answerTold(a[8])}, want)
	}
}

// laidJournal: events that lay down a journal of one tick, and change that on the disk into another one.
func laidJournal(t *testing.T, other impl.Journal) []impl.Event {
	t.Helper()
	j := impl.Journal{Lines: words("tick"), Place: 38}
	return slices.Concat([]impl.Event{evN(impl.HTime, 1), ev(impl.HLay)}, respelt(t, j, other))
}

// P13: whole images on the disk that are no journals, or whose place lies behind all moments: nothing is taken up; at a cut all begins anew.
func TestHouseTakesNoJournal(t *testing.T) {
	t.Parallel()
	with := func(place, pace int) impl.Journal {
		return impl.Journal{Lines: words("tick"), Place: place, Pace: pace}
	}
	for told, c := range map[string]struct {
		journal impl.Journal
		code    int
	}{
		"behind all": {with(38, 0), 0}, "the last moment": {with(37, 0), 0}, "one behind all": {with(39, 0), 9}, "ahead of all": {with(-1, 0), 0}, "two ahead of all": {with(-2, 0), 9}, "far behind all": {with(63, 0), 9}, "far ahead": {with(-64, 0), 9},
		"another pace": {with(37, 63), 0}, "no pace": {with(37, -1), 9}, "most pace": {with(37, 1000), 0}, "too much pace": {with(37, 1001), 9}, "the greatest place": {with(100000, 0), 9}, "no place": {with(100001, 0), 9},
		"other lines": {impl.Journal{Lines: words("tock"), Place: 35}, 0}, "other lines, behind all": {impl.Journal{Lines: words("tock"), Place: 36}, 0}, "other lines, too far": {impl.Journal{Lines: words("tock"), Place: 37}, 9}, "a stop": {impl.Journal{Place: 7, Stops: []impl.Stop{onCall(9)}}, 0}, "no lines": {impl.Journal{Place: 30}, 0}, "no lines, too far": {impl.Journal{Place: 31}, 9},
		"no stop": {impl.Journal{Place: 7, Stops: []impl.Stop{{Kind: 7}}}, 9},
	} {
		for name, last := range map[string]impl.Event{"taken": ev(impl.HTake), "cut": evCut(0)} {
			events := slices.Concat(laidJournal(t, c.journal), []impl.Event{last, evN(impl.HWhere, 0), ev(impl.HGo), evN(impl.HTime, 1), evN(impl.HCount, 0)})
			if len(events) > 60 {
				t.Fatalf("%s: %d events", told, len(events))
			}
			a := checkPlay(t, told+", "+name, counterHost(), events...)
			got := a[len(events)-5]
			place := c.journal.Place
			if c.code == 9 {
				place = map[string]int{"taken": 38, "cut": 30}[name]
			}
			if got.Code != c.code || got.Place != place {
				t.Errorf("%s, %s: %v, want code %d at %d", told, name, got, c.code, place)
			}
		}
	}
}

// P13: the greatest Gen: nothing can be laid down behind it, and Newest stays what it was.
func TestHouseLastGen(t *testing.T) {
	j := impl.Journal{Place: 30}
	image := plainJournalImage(j)
	for gen, want := range map[int][]string{
		impl.MaxGen:     {"code 0 num 1000000000000", "code 0 num 1000000000000", `code 0 says ["once" "7"]`, "code 0 num 1000000000000", "code 0 num 1000000000000"},
		impl.MaxGen - 1: {"code 0 num 999999999999", "code 0 num 1000000000000", `code 0 says ["once" "7"]`, "code 0 num 1000000000000", "code 0 num 1000000000000"},
		impl.MaxGen + 1: {"code 9", "code 0 num 1", `code 0 says ["once" "7"]`, "code 0 num 2", "code 0 num 3"},
	} {
		spoils := respeltDisk(laid(plainBlank(), 0, 1, image), laid(plainBlank(), 0, gen, image))
		a := checkPlay(t, fmt.Sprint("gen ", gen), counterHost(), slices.Concat([]impl.Event{ev(impl.HLay)}, spoils, []impl.Event{ev(impl.HTake), ev(impl.HLay), ev(impl.HBegin), evCut(200), ev(impl.HLay), evSay("c", "x")})...)
		var got []string
		for _, one := range a[1+len(spoils) : 6+len(spoils)] {
			got = append(got, answerTold(one))
		}
		checkShown(t, fmt.Sprint("gen ", gen), got, want)
	}
}

// P13: the pace is laid down with the rest: what is laid down is spoiled into another journal, which only the right bytes become.
func TestHouseLaysPaces(t *testing.T) {
	for _, pace := range []int{0, 1, 63, 64, 1000} {
		j := impl.Journal{Place: 30, Pace: pace}
		other := impl.Journal{Place: 29, Pace: pace}
		a := checkPlay(t, fmt.Sprint("pace ", pace), counterHost(), slices.Concat([]impl.Event{evN(impl.HPace, 7), evN(impl.HPace, pace), ev(impl.HLay)}, respelt(t, j, other), []impl.Event{ev(impl.HTake), evN(impl.HPace, 8), ev(impl.HTake), ev(impl.HLay)}, respeltDisk(laid(plainBlank(), 1, 2, plainJournalImage(other)), laid(plainBlank(), 1, 2, plainJournalImage(impl.Journal{Place: 28, Pace: pace}))), []impl.Event{ev(impl.HTake)})...)
		if last := a[len(a)-1]; last.Code != 0 || last.Place != 28 || last.Num != 2 {
			t.Errorf("pace %d: %v", pace, last)
		}
	}
}

// P13: foreign code in the midst of a play: refused, or run with the house's allowances and without lines; the house stays as it is.
func TestHouseCode(t *testing.T) {
	image := func(text string) impl.Event { return evText(impl.HCode, string(imageOf(t, text))) }
	notVerified := evText(impl.HCode, string(impl.Encode(stepsOf("throw 0"))))
	events := []impl.Event{ev(impl.HBegin), image("print(\"foreign\", read(), ...)"), notVerified, evText(impl.HCode, ""), evText(impl.HCode, strings.Repeat("x", 65536)), evStop(onLine(12, 74)), evSay("c", "x"), image("print(1)\nthrow \"off\""), ev(impl.HGo), image("while true {print(2)}")}
	h := allowing(counterHost(), 180, 9, 200)
	a := checkPlay(t, "foreign", h, events...)
	var got []string
	for _, one := range a[:9] {
		got = append(got, answerTold(one))
	}
	checkShown(t, "foreign", got, []string{`code 0 says ["once" "7"]`, `code 0 says ["foreign nil"]`, "code 10 num 10", "code 10 num 1", "code 10 num 1", "code 0", "code 0", `code 0 num 1 text "off" says ["1"]`, `code 0 says ["1 x"]`})
	checkAnswerPlaces(t, "foreign", a, 79, 79, 79, 79, 79, 79, 92, 92, 97, 97)
	if a[9].Num != 2 || len(a[9].Says) != 59 {
		t.Errorf("180 ticks: %d says", len(a[9].Says))
	}
}
