package tests

import (
	"fmt"
	"slices"
	"strings"
	"testing"

	"loop.example/heddle/impl"
)

// hostOf: a bundle of these sources, names and texts in turn, whose first one is the main module; with plenty of everything.
func hostOf(namesAndTexts ...string) impl.Hosted {
	return impl.Hosted{Bundle: bundleOf([]string{""}, namesAndTexts...), Main: namesAndTexts[0], Ticks: impl.MaxTicks, Depth: impl.MaxDepth, Cells: impl.MaxCells}
}

// allowing: the same with other allowances.
func allowing(h impl.Hosted, ticks, depth, cells int) impl.Hosted {
	h.Ticks, h.Depth, h.Cells = ticks, depth, cells
	return h
}

func sessionInput(h impl.Hosted, lines []string) impl.Input {
	return impl.Input{Lines: lines, Ticks: h.Ticks, Depth: h.Depth, Cells: h.Cells}
}

// played: a session, and what it reads.
type played struct {
	host  impl.Hosted
	lines []string
}

func words(text string) []string { return strings.Fields(text) }

// plainSession: the report of a session by the plain machine, and what can be seen at each record; false when there is no session.
func plainSession(h impl.Hosted, lines []string) (impl.Report, []impl.View, bool) {
	l := plainLink(h.Bundle, h.Main)
	if l.Code != 0 || !impl.InputOk(sessionInput(h, lines)) {
		return impl.Report{Code: 3}, nil, false
	}
	r, views := plainRun(l.Unit, sessionInput(h, lines), true)
	return r, views, true
}

// plainSettled: how many of the records are settled, by the fn that stands at line 58 of the house's own text.
func plainSettled(u impl.Unit, r impl.Report) int {
	loop := slices.IndexFunc(u.Fns, func(fn impl.Fn) bool { return fn.Line == 58 })
	count := len(r.Recs)
	for i, rec := range r.Recs {
		if r.Code == 0 && rec.Kind == 1 && rec.Task == 0 && rec.Fn == loop && rec.Line == 60 {
			count = i + 1
		}
	}
	return count
}

func plainMoments(h impl.Hosted, lines []string) ([]impl.Moment, bool) {
	l := plainLink(h.Bundle, h.Main)
	if l.Code != 0 || !impl.InputOk(sessionInput(h, lines)) {
		return nil, false
	}
	return plainUnitMoments(l.Unit, sessionInput(h, lines)), true
}

func plainUnitMoments(u impl.Unit, in impl.Input) []impl.Moment {
	r, views := plainRun(u, in, true)
	var moments []impl.Moment
	for i, rec := range r.Recs[:plainSettled(u, r)] {
		if rec.Kind == 8 || rec.Kind == 5 && rec.Fn == 0 && rec.Line == 0 {
			continue
		}
		m := impl.Moment{Rec: rec}
		if len(views[i].Calls) > 0 {
			m.Vars = views[i].Calls[0].Vars
		}
		moments = append(moments, m)
	}
	return moments
}

// plainOpen: an open call of any task.
type plainOpen struct {
	impl.CallAt
	task int
}

// plainBehind: the running task and all open calls behind so many moments, the innermost of each task behind the others of it; and the
// call that the last of these moments shows, if it shows one.
func plainBehind(moments []impl.Moment, count int) (running int, open []plainOpen, shown []plainOpen) {
	open = []plainOpen{{impl.CallAt{From: -1}, 0}}
	innermost := func() int {
		for i := len(open) - 1; i >= 0; i-- {
			if open[i].task == running {
				return i
			}
		}
		return -1
	}
	for i, m := range moments[:count] {
		shown = nil
		switch m.Rec.Kind {
		case 7:
			running = m.Rec.Task
		case 2:
			open = append(open, plainOpen{impl.CallAt{Fn: m.Rec.Fn, From: i}, running})
		case 1:
			open[innermost()].Line = m.Rec.Line
		case 3:
			at := innermost()
			shown = []plainOpen{open[at]}
			open = slices.Delete(open, at, at+1)
		}
		if at := innermost(); at >= 0 && m.Rec.Kind != 3 {
			shown = []plainOpen{open[at]}
		}
	}
	return running, open, shown
}

// plainStack: the open calls of a task at a place of a session.
func plainStack(moments []impl.Moment, k, task int) []impl.CallAt {
	if k < -1 || k > len(moments) || task < 0 || task > 99 {
		return nil
	}
	_, open, _ := plainBehind(moments, min(k+1, len(moments)))
	var calls []impl.CallAt
	for _, c := range slices.Backward(open) {
		if c.task == task {
			calls = append(calls, c.CallAt)
		}
	}
	return calls
}

// plainGlimpse: what a moment shows of a variable: of which call, and its text; false when it shows nothing of it.
func plainGlimpse(m impl.Moment, shown []plainOpen, fn int, name string) (from int, text string, ok bool) {
	if len(shown) == 0 || shown[0].Fn != fn {
		return 0, "", false
	}
	for _, v := range m.Vars {
		if v.Name == name {
			from, text, ok = shown[0].From, v.Text, true
		}
	}
	return from, text, ok
}

// plainHits: the moments at which each of these stops holds.
func plainHits(moments []impl.Moment, stops []impl.Stop) [][]int {
	var shown [][]plainOpen
	for i := range moments {
		_, _, s := plainBehind(moments, i+1)
		shown = append(shown, s)
	}
	hits := make([][]int, len(stops))
	for n, s := range stops {
		for i, m := range moments {
			var holds bool
			switch s.Kind {
			case 1:
				holds = m.Rec.Kind == 1 && m.Rec.Fn == s.Fn && m.Rec.Line == s.Line
			case 2:
				holds = m.Rec.Kind == 2 && m.Rec.Fn == s.Fn
			case 4:
				holds = m.Rec.Kind == 4
			case 3:
				holds = plainChanges(moments, shown, i, s)
			}
			if holds {
				hits[n] = append(hits[n], i)
			}
		}
	}
	return hits
}

// plainChanges: whether a watch holds at a moment, by looking back from it.
func plainChanges(moments []impl.Moment, shown [][]plainOpen, i int, s impl.Stop) bool {
	from, text, ok := plainGlimpse(moments[i], shown[i], s.Fn, s.Name)
	if !ok {
		return false
	}
	for k := i - 1; k >= 0; k-- {
		if again, before, ok := plainGlimpse(moments[k], shown[k], s.Fn, s.Name); ok && again == from {
			return before != text
		}
	}
	return true
}

func momentsTold(moments []impl.Moment) []string {
	var told []string
	for _, m := range moments {
		line := recTold(m.Rec)
		for _, v := range m.Vars {
			line += fmt.Sprintf(" %s=%s", v.Name, v.Text)
		}
		told = append(told, line)
	}
	return told
}

func callsTold(calls []impl.CallAt) string {
	var told []string
	for _, c := range calls {
		told = append(told, fmt.Sprintf("%d:%d<%d", c.Fn, c.Line, c.From))
	}
	return strings.Join(told, " ")
}

// checkMoments: Moments answers this.
func checkMoments(t *testing.T, told string, h impl.Hosted, lines []string, want []impl.Moment) {
	t.Helper()
	got, wanted := momentsTold(impl.Moments(h, lines)), momentsTold(want)
	for i := range max(len(got), len(wanted)) {
		if i >= len(got) || i >= len(wanted) || got[i] != wanted[i] {
			t.Errorf("%s: %d moments, want %d; from %d on %s, want %s", told, len(got), len(wanted), i, shortly(got[min(i, len(got)):]), shortly(wanted[min(i, len(wanted)):]))
			return
		}
	}
}

// seenStops: a stop for every line, call and variable that these moments have, for what is thrown, and some that hold nowhere.
func seenStops(moments []impl.Moment) []impl.Stop {
	stops := []impl.Stop{{Kind: impl.OnThrow}, {Kind: impl.OnLine, Fn: 10, Line: 60}, {Kind: impl.OnLine, Fn: 299, Line: 100000}, {Kind: impl.OnCall, Fn: 299}, {Kind: impl.OnWatch, Fn: 299, Name: "x"}, {Kind: impl.OnWatch, Name: "no such name"}}
	for i, m := range moments {
		_, _, shown := plainBehind(moments, i+1)
		switch m.Rec.Kind {
		case 1:
			stops = append(stops, impl.Stop{Kind: impl.OnLine, Fn: m.Rec.Fn, Line: m.Rec.Line})
		case 2:
			stops = append(stops, impl.Stop{Kind: impl.OnCall, Fn: m.Rec.Fn})
		}
		for _, v := range m.Vars {
			stops = append(stops, impl.Stop{Kind: impl.OnWatch, Fn: shown[0].Fn, Name: v.Name})
		}
	}
	slices.SortFunc(stops, func(a, b impl.Stop) int { return strings.Compare(fmt.Sprint(a), fmt.Sprint(b)) })
	return slices.Compact(stops)
}

// some: at most so many of a list, from all of it.
func some[T any](list []T, most int) []T {
	if len(list) <= most {
		return list
	}
	var out []T
	for n := range most {
		out = append(out, list[n*(len(list)-1)/(most-1)])
	}
	return out
}

// checkReports: a session has the report of the plain machine, walked, stepped and on the machine at several paces.
func checkReports(t *testing.T, told string, h impl.Hosted, lines []string) impl.Report {
	t.Helper()
	bundle, read := copiedBundle(h.Bundle), slices.Clone(lines)
	want, _, _ := plainSession(h, lines)
	got := impl.Session(h, lines)
	if !sameReport(got, want) {
		t.Errorf("%s: Session %s, want %s", told, reportTold(got), reportTold(want))
	}
	if l := impl.Link(h.Bundle, h.Main); l.Code == 0 {
		if stepped := impl.RunCode(l.Made, sessionInput(h, lines)); !sameReport(stepped, want) {
			t.Errorf("%s: RunCode %s, want %s", told, reportTold(stepped), reportTold(want))
		}
	}
	for _, pace := range []int{0, 1, 7, impl.MaxPace} {
		if loom := impl.SessionLoom(h, lines, pace); !sameReport(loom, want) {
			t.Errorf("%s: SessionLoom at pace %d %s, want %s", told, pace, reportTold(loom), reportTold(want))
		}
	}
	if !sameBundle(h.Bundle, bundle) || !slices.Equal(lines, read) {
		t.Errorf("%s: what was given has changed", told)
	}
	return got
}

// checkPlayed: Moments, StackAt at some places, and Hits of some stops answer what the plain ones answer; what is given stays as it was.
func checkPlayed(t *testing.T, told string, h impl.Hosted, lines []string, most int) {
	t.Helper()
	bundle, read := copiedBundle(h.Bundle), slices.Clone(lines)
	moments, ok := plainMoments(h, lines)
	if !ok {
		t.Errorf("%s: no session", told)
		return
	}
	checkMoments(t, told, h, lines, moments)
	places := []int{leastInt, -2, -1, 0, 1, len(moments) - 1, len(moments), len(moments) + 1, mostInt}
	for i, m := range moments {
		if m.Rec.Kind != impl.RecLine {
			places = append(places, i)
		}
	}
	for n, k := range some(places, most) {
		for _, task := range [][]int{{0, 1}, {0, 2}, {0, 99, -1}, {1, 100}, {0, 3}}[n%5] {
			if got, want := callsTold(impl.StackAt(h, lines, k, task)), callsTold(plainStack(moments, k, task)); got != want {
				t.Errorf("%s: StackAt %d of task %d: %s, want %s", told, k, task, got, want)
			}
		}
	}
	stops := some(seenStops(moments), most)
	for n, want := range plainHits(moments, stops) {
		if got := impl.Hits(h, lines, stops[n]); !slices.Equal(got, want) {
			t.Errorf("%s: Hits of %v: %v, want %v", told, stops[n], got, want)
		}
	}
	if !sameBundle(h.Bundle, bundle) || !slices.Equal(lines, read) {
		t.Errorf("%s: what was given has changed", told)
	}
}
