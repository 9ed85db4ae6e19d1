package tests

import (
	"fmt"
	"slices"
	"strings"
	"testing"

	"loop.example/heddle/impl"
)

func checkStopOk(t *testing.T, s impl.Stop, want bool) {
	t.Helper()
	if got := impl.StopOk(s); got != want {
		t.Errorf("StopOk(%+v) %v", s, got)
	}
}

// nameLengths: names by their bytes, and whether a variable's name may have so many.
func nameLengths() map[string]bool {
	return map[string]bool{
		"": false, "x": true, " ": true, "\xff": true, "1 +": true, "no name at all": true,
		strings.Repeat("a", 39): true, strings.Repeat("a", 40): true, strings.Repeat("a", 41): false, strings.Repeat("a", 4000): false,
		strings.Repeat("é", 20): true, strings.Repeat("é", 21): false,
	}
}

// P11: each Kind of stop with the fields that it names at their edges.
func TestStopOk(t *testing.T) {
	for fn, ok := range map[int]bool{leastInt: false, -1: false, 0: true, 1: true, 298: true, 299: true, 300: false, mostInt: false} {
		checkStopOk(t, impl.Stop{Kind: 1, Fn: fn, Line: 1}, ok)
		checkStopOk(t, impl.Stop{Kind: 2, Fn: fn}, ok)
		checkStopOk(t, impl.Stop{Kind: 3, Fn: fn, Name: "x"}, ok)
		checkStopOk(t, impl.Stop{Kind: 4, Fn: fn}, fn == 0)
	}
	for line, ok := range map[int]bool{leastInt: false, -1: false, 0: false, 1: true, 60: true, 99999: true, 100000: true, 100001: false, mostInt: false} {
		checkStopOk(t, impl.Stop{Kind: 1, Fn: 299, Line: line}, ok)
		for kind, name := range map[int]string{2: "", 3: "x", 4: ""} {
			checkStopOk(t, impl.Stop{Kind: kind, Line: line, Name: name}, line == 0)
		}
	}
	for name, ok := range nameLengths() {
		checkStopOk(t, impl.Stop{Kind: 3, Fn: 7, Name: name}, ok)
		for kind, line := range map[int]int{1: 5, 2: 0, 4: 0} {
			checkStopOk(t, impl.Stop{Kind: kind, Line: line, Name: name}, name == "")
		}
	}
	for _, kind := range []int{leastInt, -4, -3, -2, -1, 0, 5, 6, mostInt} {
		for _, s := range []impl.Stop{{}, {Fn: 1}, {Line: 1}, {Name: "x"}, {Fn: 1, Line: 1}, {Fn: 1, Name: "x"}, {Fn: 1, Line: 1, Name: "x"}} {
			s.Kind = kind
			checkStopOk(t, s, false)
		}
	}
}

// limits: from the least to the most of a number, or of how long something is.
type limits struct{ least, most int }

func (l limits) has(n int) bool { return n >= l.least && n <= l.most }

// around: numbers at the limits, one past them, and far away.
func (l limits) around() []int {
	return []int{leastInt, l.least - 1, l.least, l.least + 1, l.most - 1, l.most, l.most + 1, -1, 0, 1, 2, 100, mostInt}
}

// eventLimits: what the table of the document says; what is not named may only be 0 or empty.
type eventLimits struct {
	op                     int
	n, m, name, text, kept limits
	stop                   bool
}

func allEvents() []eventLimits {
	return []eventLimits{
		{op: 1},
		{op: 2, text: limits{0, 4000}},
		{op: 3, n: limits{0, 50}},
		{op: 4, name: limits{0, 4000}, text: limits{0, 4000}},
		{op: 5, n: limits{0, 1000}},
		{op: 6, stop: true},
		{op: 7, n: limits{0, 19}},
		{op: 8}, {op: 9}, {op: 10}, {op: 11},
		{op: 12, n: limits{0, 99}},
		{op: 13},
		{op: 14, name: limits{1, 40}},
		{op: 15, n: limits{0, 19}},
		{op: 16},
		{op: 17, n: limits{0, 200}, kept: limits{0, 200}},
		{op: 18},
		{op: 19, n: limits{0, 258*64 - 1}, m: limits{1, 255}},
		{op: 20, text: limits{0, 65536}},
		{op: 21},
	}
}

// least: the smallest event of its Op.
func (l eventLimits) least() impl.Event {
	e := impl.Event{Op: l.op, N: l.n.least, M: l.m.least, Name: strings.Repeat("x", l.name.least)}
	if l.stop {
		e.Stop = impl.Stop{Kind: impl.OnThrow}
	}
	return e
}

// greatest: the one with the most of all that its Op wants.
func (l eventLimits) greatest() impl.Event {
	e := impl.Event{Op: l.op, N: l.n.most, M: l.m.most, Name: strings.Repeat("x", l.name.most), Text: strings.Repeat("\xff", l.text.most), Kept: make([]bool, l.kept.most)}
	if l.stop {
		e.Stop = impl.Stop{Kind: impl.OnWatch, Fn: 299, Name: strings.Repeat("x", 40)}
	}
	return e
}

func eventTold(e impl.Event) string {
	return fmt.Sprintf("op %d n %d m %d, name of %d, text of %d, kept of %d, stop %s", e.Op, e.N, e.M, len(e.Name), len(e.Text), len(e.Kept), shortly(fmt.Sprintf("%+v", e.Stop)))
}

func checkEventOk(t *testing.T, e impl.Event, want bool) {
	t.Helper()
	before := slices.Clone(e.Kept)
	if got := impl.EventOk(e); got != want {
		t.Errorf("EventOk: %s: %v", eventTold(e), got)
	}
	if !slices.Equal(e.Kept, before) {
		t.Errorf("EventOk: %s: Kept has changed", eventTold(e))
	}
}

// stopsOfAllSorts: good ones, wrong ones, and each field alone.
func stopsOfAllSorts() map[impl.Stop]bool {
	return map[impl.Stop]bool{
		{Kind: 1, Fn: 0, Line: 1}: true, {Kind: 1, Fn: 299, Line: 100000}: true, {Kind: 2}: true, {Kind: 2, Fn: 299}: true, {Kind: 3, Name: "x"}: true, {Kind: 4}: true,
		{Kind: 1}: false, {Kind: 2, Fn: 300}: false, {Kind: 3}: false, {Kind: 4, Fn: 1}: false, {Kind: 5}: false, {Kind: -1}: false,
		{Fn: 1}: false, {Fn: -1}: false, {Line: 1}: false, {Line: -1}: false, {Name: "x"}: false, {Kind: 1, Line: 1, Name: "x"}: false, {Kind: 4, Line: 1}: false,
	}
}

// P11: each Op with its fields at their edges and one past them, and every other field alone set.
func TestEventOk(t *testing.T) {
	for _, l := range allEvents() {
		checkEventOk(t, l.least(), true)
		checkEventOk(t, l.greatest(), true)
		for _, base := range []impl.Event{l.least(), l.greatest()} {
			for _, n := range l.n.around() {
				e := base
				e.N = n
				checkEventOk(t, e, l.n.has(n))
			}
			for _, m := range l.m.around() {
				e := base
				e.M = m
				checkEventOk(t, e, l.m.has(m))
			}
			for _, count := range []int{0, 1, 2, 39, 40, 41, 3999, 4000, 4001, 65535, 65536, 65537} {
				e := base
				e.Name = strings.Repeat("é", count/2) + strings.Repeat("x", count%2)
				checkEventOk(t, e, l.name.has(count))
				e = base
				e.Text = strings.Repeat("\x00", count)
				checkEventOk(t, e, l.text.has(count))
			}
			for _, count := range []int{0, 1, 2, 199, 200, 201, 1000} {
				for _, kept := range []bool{false, true} {
					e := base
					e.Kept = slices.Repeat([]bool{kept}, count)
					checkEventOk(t, e, l.kept.has(count))
				}
			}
			for s, ok := range stopsOfAllSorts() {
				e := base
				e.Stop = s
				checkEventOk(t, e, l.stop && ok)
			}
			e := base
			e.Stop = impl.Stop{}
			checkEventOk(t, e, !l.stop)
		}
	}
}

// P11: numbers that are no Op, with nothing and with what others want.
func TestEventOkOps(t *testing.T) {
	for _, op := range []int{leastInt, -21, -1, 0, 22, 23, 256 + 1, mostInt} {
		checkEventOk(t, impl.Event{Op: op}, false)
		for _, l := range allEvents() {
			for _, e := range []impl.Event{l.least(), l.greatest()} {
				e.Op = op
				checkEventOk(t, e, false)
			}
		}
	}
}

func checkLines(t *testing.T, told string, events []impl.Event, want ...string) {
	t.Helper()
	before := fmt.Sprint(events)
	got := impl.SessionLines(events)
	checkShown(t, told, got, want)
	if fmt.Sprint(events) != before {
		t.Errorf("%s: the events have changed", told)
	}
	var given []string
	for _, e := range events {
		given = append(given, e.Name, e.Text)
	}
	if sharedTexts(got, given) {
		t.Errorf("%s: a line is a text of an event", told)
	}
	if again := impl.SessionLines(events); len(got) > 0 {
		got[0] = "another"
		checkShown(t, told+", again", again, want)
		checkShown(t, told+", once more", impl.SessionLines(events), want)
	}
}

// P10: what the house reads of each event, in order.
func TestSessionLines(t *testing.T) {
	checkLines(t, "nothing", nil)
	checkLines(t, "no events", []impl.Event{})
	checkLines(t, "begin", []impl.Event{{Op: impl.HBegin}}, "begin")
	checkLines(t, "begin twice", []impl.Event{{Op: impl.HBegin}, {Op: impl.HBegin}}, "begin", "begin")
	checkLines(t, "input", []impl.Event{{Op: impl.HInput, Text: "a b"}, {Op: impl.HInput}, {Op: impl.HInput, Text: "tick"}}, "input", "a b", "input", "", "input", "tick")
	checkLines(t, "time", []impl.Event{{Op: impl.HTime}, {Op: impl.HTime, N: 1}, {Op: impl.HTime, N: 3}}, "tick", "tick", "tick", "tick")
	checkLines(t, "most time", []impl.Event{{Op: impl.HTime, N: impl.MaxWaits}}, slices.Repeat([]string{"tick"}, 50)...)
	checkLines(t, "no time", []impl.Event{{Op: impl.HTime}})
	checkLines(t, "say", []impl.Event{{Op: impl.HSay, Name: "c", Text: "x\ny"}, {Op: impl.HSay}, {Op: impl.HSay, Name: "d"}, {Op: impl.HSay, Text: "e"}}, "say", "c", "x\ny", "say", "", "", "say", "d", "", "say", "", "e")
	long := strings.Repeat("l", impl.MaxStr)
	checkLines(t, "long texts", []impl.Event{{Op: impl.HInput, Text: long}, {Op: impl.HSay, Name: long, Text: long}}, "input", long, "say", long, long)
	for _, l := range allEvents() {
		if l.op > impl.HSay {
			checkLines(t, fmt.Sprint("op ", l.op), []impl.Event{l.least(), {Op: impl.HBegin}, l.greatest()}, "begin")
		}
	}
}

// P10: events that are none, between others: too much of something, or something that they do not want.
func TestSessionLinesOfNoEvents(t *testing.T) {
	long := strings.Repeat("l", impl.MaxStr+1)
	none := []impl.Event{
		{}, {Op: -1}, {Op: 22}, {Op: impl.HBegin, N: 1}, {Op: impl.HBegin, Text: "x"}, {Op: impl.HBegin, Kept: []bool{false}}, {Op: impl.HBegin, Stop: impl.Stop{Kind: impl.OnThrow}},
		{Op: impl.HInput, Text: long}, {Op: impl.HInput, Name: "x"}, {Op: impl.HInput, N: 1}, {Op: impl.HInput, M: 1},
		{Op: impl.HTime, N: -1}, {Op: impl.HTime, N: impl.MaxWaits + 1}, {Op: impl.HTime, N: 1, M: 1}, {Op: impl.HTime, N: mostInt},
		{Op: impl.HSay, Name: long}, {Op: impl.HSay, Text: long}, {Op: impl.HSay, Name: "c", Text: "x", N: 1}, {Op: impl.HSay, Name: "c", Kept: []bool{true}},
		{Op: impl.HStop}, {Op: impl.HClear, N: 20}, {Op: impl.HValue}, {Op: impl.HSpoil},
	}
	checkLines(t, "none", none)
	for _, e := range none {
		checkLines(t, eventTold(e), []impl.Event{{Op: impl.HTime, N: 1}, e, {Op: impl.HSay, Name: "c", Text: "x"}, e, {Op: impl.HInput, Text: "y"}}, "tick", "say", "c", "x", "input", "y")
	}
}
