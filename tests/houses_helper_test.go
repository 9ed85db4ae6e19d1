package tests

import (
	"fmt"
	"maps"
	"slices"
	"strings"
	"testing"

	"loop.example/heddle/impl"
)

// plainJournalGraph: the graph of a journal, whatever is wrong with it.
func plainJournalGraph(j impl.Journal) impl.Graph {
	num := func(n int) impl.Val { return impl.Val{Kind: 1, Num: int64(n)} }
	g := impl.Graph{Root: gNode(0), Nodes: []impl.Thing{{Tag: 1, Vals: []impl.Val{num(j.Place), num(j.Pace), gNode(1), gNode(2)}}, {Tag: 2}, {Tag: 3}}}
	for _, line := range j.Lines {
		g.Nodes[1].Vals = append(g.Nodes[1].Vals, gText(line))
	}
	for _, s := range j.Stops {
		g.Nodes[2].Vals = append(g.Nodes[2].Vals, gNode(len(g.Nodes)))
		g.Nodes = append(g.Nodes, impl.Thing{Tag: 4, Vals: []impl.Val{num(s.Kind), num(s.Fn), num(s.Line), gText(s.Name)}})
	}
	return g
}

func plainJournalOk(j impl.Journal) bool {
	ok := len(j.Lines) <= 200 && len(j.Stops) <= 20 && j.Place >= -1 && j.Place <= 100000 && j.Pace >= 0 && j.Pace <= 1000
	for _, line := range j.Lines {
		ok = ok && len(line) <= 4000
	}
	for _, s := range j.Stops {
		ok = ok && impl.StopOk(s)
	}
	return ok
}

func plainJournalImage(j impl.Journal) []byte {
	if !plainJournalOk(j) {
		return nil
	}
	return plainPack(plainJournalGraph(j))
}

// hasKinds: whether values are just of these kinds.
func hasKinds(vals []impl.Val, kinds ...int) bool {
	return slices.EqualFunc(vals, kinds, func(v impl.Val, kind int) bool { return v.Kind == kind })
}

// plainJournalIn: the journal of a graph, node by node, and whether there is one.
func plainJournalIn(g impl.Graph) (impl.Journal, bool) {
	var j impl.Journal
	nodes := g.Nodes
	if g.Root != gNode(0) || len(nodes) < 3 || nodes[0].Tag != 1 || nodes[1].Tag != 2 || nodes[2].Tag != 3 || len(nodes) != 3+len(nodes[2].Vals) || !hasKinds(nodes[0].Vals, 1, 1, 4, 4) || nodes[0].Vals[2].Node != 1 || nodes[0].Vals[3].Node != 2 {
		return j, false
	}
	j.Place, j.Pace = int(nodes[0].Vals[0].Num), int(nodes[0].Vals[1].Num)
	for _, v := range nodes[1].Vals {
		if v.Kind != 3 {
			return impl.Journal{}, false
		}
		j.Lines = append(j.Lines, v.Text)
	}
	for i, v := range nodes[2].Vals {
		stop := nodes[3+i]
		if v != gNode(3+i) || stop.Tag != 4 || !hasKinds(stop.Vals, 1, 1, 1, 3) {
			return impl.Journal{}, false
		}
		j.Stops = append(j.Stops, impl.Stop{Kind: int(stop.Vals[0].Num), Fn: int(stop.Vals[1].Num), Line: int(stop.Vals[2].Num), Name: stop.Vals[3].Text})
	}
	if !plainJournalOk(j) {
		return impl.Journal{}, false
	}
	return j, true
}

func plainReadJournal(b []byte) (impl.Journal, bool) {
	g, ok := plainUnpack(b)
	if !ok {
		return impl.Journal{}, false
	}
	return plainJournalIn(g)
}

func journalTold(j impl.Journal) string {
	return fmt.Sprintf("place %d pace %d lines %q stops %+v", j.Place, j.Pace, j.Lines, j.Stops)
}

// plainForeign: what the chapters before say of these bytes.
func plainForeign(b []byte, in impl.Input) impl.Answered {
	c := impl.Decode(b)
	if fault := impl.CheckCode(c); fault.Code != 0 {
		return impl.Answered{Code: 10, Num: fault.Code}
	}
	r := impl.RunCode(c, in)
	if r.Code == 3 {
		return impl.Answered{Code: 11}
	}
	a := impl.Answered{Num: r.Code, Text: r.Error}
	for _, rec := range r.Recs {
		if rec.Kind == 6 {
			a.Says = append(a.Says, rec.Text)
		}
	}
	return a
}

// plainHouse: a house that works out all anew at each event.
type plainHouse struct {
	host    impl.Hosted
	unit    impl.Unit
	met     map[string][]impl.Moment // by lines
	places  []plainLine
	journal impl.Journal
	disk    impl.Disk
}

func plainPlay(h impl.Hosted, l impl.Linked, events []impl.Event) []impl.Answered {
	if len(events) > 60 || l.Code != 0 || !impl.InputOk(sessionInput(h, nil)) {
		return nil
	}
	p := &plainHouse{host: h, unit: l.Unit, met: map[string][]impl.Moment{}, places: plainLines(h.Bundle, "any"), disk: plainBlank()}
	p.anew()
	var answers []impl.Answered
	for _, e := range events {
		a := p.answer(e)
		a.Place = p.journal.Place
		answers = append(answers, a)
	}
	return answers
}

func (p *plainHouse) moments(lines []string) []impl.Moment {
	key := fmt.Sprintf("%q", lines)
	if _, ok := p.met[key]; !ok {
		p.met[key] = plainUnitMoments(p.unit, sessionInput(p.host, lines))
	}
	return p.met[key]
}

func (p *plainHouse) anew() { p.journal = impl.Journal{Place: len(p.moments(nil))} }

// goes: to the first moment behind a place that is right, or behind all.
func (p *plainHouse) goes(from int, right func(k int) bool) impl.Answered {
	var a impl.Answered
	moments := p.moments(p.journal.Lines)
	p.journal.Place = len(moments)
	for k := from + 1; k < len(moments); k++ {
		if moments[k].Rec.Kind == 6 {
			a.Says = append(a.Says, moments[k].Rec.Text)
		}
		if right(k) {
			p.journal.Place = k
			break
		}
	}
	return a
}

// stopsAt: whether one of the stops holds at a moment.
func (p *plainHouse) stopsAt() func(k int) bool {
	hits := plainHits(p.moments(p.journal.Lines), p.journal.Stops)
	return func(k int) bool {
		return slices.ContainsFunc(hits, func(places []int) bool { return slices.Contains(places, k) })
	}
}

// steps: whether a moment is a record of this kind, of the task that runs at the place, with calls open as wanted.
func (p *plainHouse) steps(kind int, fits func(open, before int) bool) func(k int) bool {
	moments := p.moments(p.journal.Lines)
	task, _, _ := plainBehind(moments, min(p.journal.Place+1, len(moments)))
	count := func(place int) int {
		_, open, _ := plainBehind(moments, min(place+1, len(moments)))
		return len(slices.DeleteFunc(open, func(o plainOpen) bool { return o.task != task }))
	}
	before := count(p.journal.Place)
	return func(k int) bool {
		return moments[k].Rec.Kind == kind && moments[k].Rec.Task == task && fits(count(k), before)
	}
}

func (p *plainHouse) answer(e impl.Event) impl.Answered {
	j := &p.journal
	moments := p.moments(j.Lines)
	if !impl.EventOk(e) {
		return impl.Answered{Code: 1}
	}
	switch e.Op {
	case 1, 2, 3, 4:
		lines := slices.Concat(j.Lines, impl.SessionLines([]impl.Event{e}))
		if j.Place != len(moments) {
			return impl.Answered{Code: 3}
		}
		if len(lines) > 200 {
			return impl.Answered{Code: 4}
		}
		j.Lines = lines
		return p.goes(len(moments)-1, p.stopsAt())
	case 5:
		j.Pace = e.N
	case 6:
		if len(j.Stops) == 20 {
			return impl.Answered{Code: 2}
		}
		j.Stops = append(j.Stops, e.Stop)
		return impl.Answered{Num: len(j.Stops) - 1}
	case 7:
		if e.N >= len(j.Stops) {
			return impl.Answered{Code: 2}
		}
		j.Stops = slices.Concat(j.Stops[:e.N], j.Stops[e.N+1:])
	case 8:
		return p.goes(j.Place, p.stopsAt())
	case 9:
		return p.goes(j.Place, p.steps(1, func(open, before int) bool { return true }))
	case 10:
		return p.goes(j.Place, p.steps(1, func(open, before int) bool { return open <= before }))
	case 11:
		return p.goes(j.Place, p.steps(3, func(open, before int) bool { return open < before }))
	case 20:
		return plainForeign([]byte(e.Text), sessionInput(p.host, nil))
	case 16, 17, 18, 19:
		return p.disked(e)
	default:
		return p.looked(e)
	}
	return impl.Answered{}
}

// looked: what an event is answered that only looks.
func (p *plainHouse) looked(e impl.Event) impl.Answered {
	var a impl.Answered
	j, moments := p.journal, p.moments(p.journal.Lines)
	upTo := moments[:min(j.Place+1, len(moments))]
	if (e.Op == 13 || e.Op == 14) && j.Place >= 0 && j.Place < len(moments) {
		a.Vars = moments[j.Place].Vars
	}
	switch e.Op {
	case 12:
		a.Num, _, _ = plainBehind(moments, len(upTo))
		a.Stack = plainStack(moments, j.Place, e.N)
	case 14:
		shown := a.Vars
		a = impl.Answered{Code: 6}
		for _, v := range shown {
			if v.Name == e.Name {
				a = impl.Answered{Text: v.Text}
			}
		}
	case 15:
		if e.N >= len(j.Stops) {
			return impl.Answered{Code: 2}
		}
		for _, k := range plainHits(moments, j.Stops[e.N:e.N+1])[0] {
			if k <= j.Place {
				a.Num++
			}
		}
	case 21:
		for _, place := range p.places {
			count := 0
			for _, m := range upTo {
				if m.Rec.Kind == 1 && p.places[m.Rec.Line-1].place == place.place {
					count++
				}
			}
			if count > 0 {
				a.Counts = append(a.Counts, impl.Counted{Source: place.place.Source, Line: place.place.Line, Count: count})
			}
		}
		slices.SortStableFunc(a.Counts, func(a, b impl.Counted) int { return a.Source - b.Source })
	}
	return a
}

// disked: what an event is answered that has to do with the disk.
func (p *plainHouse) disked(e impl.Event) impl.Answered {
	image := plainJournalImage(p.journal)
	if (e.Op == 16 || e.Op == 17) && image == nil {
		return impl.Answered{Code: 8}
	}
	ops := plainOps(p.disk, image)
	switch e.Op {
	case 16:
		p.disk = plainApply(p.disk, ops, len(ops))
		return impl.Answered{Num: plainNewest(p.disk).Gen}
	case 17:
		p.disk = plainCrash(plainApply(p.disk, ops, min(e.N, len(ops))), e.Kept)
		a := p.taken()
		if a.Code == 9 {
			p.anew()
		}
		return a
	case 19:
		p.disk = copiedDisk(p.disk)
		p.disk.Blocks[e.N/64][e.N%64] ^= byte(e.M)
		return impl.Answered{}
	}
	return p.taken()
}

func (p *plainHouse) taken() impl.Answered {
	newest := plainNewest(p.disk)
	j, ok := plainReadJournal(newest.Bytes)
	if !ok || j.Place > len(p.moments(j.Lines)) {
		return impl.Answered{Code: 9}
	}
	p.journal = j
	return impl.Answered{Num: newest.Gen}
}

func plainTold(l impl.Linked, answers []impl.Answered) string {
	if l.Code != 0 {
		return fmt.Sprintf("not linked %d %d %d\n", l.Code, l.Source, l.Line)
	}
	var b strings.Builder
	for i, a := range answers {
		fmt.Fprintf(&b, "%d %d %d %d %s\n", i, a.Code, a.Place, a.Num, impl.Quote(a.Text))
		for _, said := range a.Says {
			fmt.Fprintf(&b, "says %s\n", impl.Quote(said))
		}
		for _, c := range a.Stack {
			fmt.Fprintf(&b, "call %d %d %d\n", c.Fn, c.Line, c.From)
		}
		for _, v := range a.Vars {
			fmt.Fprintf(&b, "var %s %s\n", v.Name, impl.Quote(v.Text))
		}
		for _, c := range a.Counts {
			fmt.Fprintf(&b, "line %d %d %d\n", c.Source, c.Line, c.Count)
		}
	}
	return b.String()
}

// answerTold: all of an answer but its place.
func answerTold(a impl.Answered) string {
	told := fmt.Sprintf("code %d", a.Code)
	if a.Num != 0 {
		told += fmt.Sprintf(" num %d", a.Num)
	}
	if a.Text != "" {
		told += fmt.Sprintf(" text %q", a.Text)
	}
	if len(a.Says) > 0 {
		told += fmt.Sprintf(" says %q", a.Says)
	}
	if len(a.Stack) > 0 {
		told += " calls " + callsTold(a.Stack)
	}
	if len(a.Vars) > 0 {
		told += fmt.Sprintf(" vars %q", a.Vars)
	}
	if len(a.Counts) > 0 {
		told += fmt.Sprintf(" counts %v", a.Counts)
	}
	return told
}

func answersTold(answers []impl.Answered) []string {
	var told []string
	for _, a := range answers {
		told = append(told, fmt.Sprintf("at %d %s", a.Place, answerTold(a)))
	}
	return told
}

func copiedEvents(events []impl.Event) []impl.Event {
	copied := slices.Clone(events)
	for i := range copied {
		copied[i].Kept = slices.Clone(copied[i].Kept)
	}
	return copied
}

func sameEvents(a, b []impl.Event) bool {
	return slices.EqualFunc(a, b, func(x, y impl.Event) bool {
		return x.Op == y.Op && x.N == y.N && x.M == y.M && x.Name == y.Name && x.Text == y.Text && x.Stop == y.Stop && slices.Equal(x.Kept, y.Kept)
	})
}

// checkPlay: Play and Told answer what the plain ones answer; what is given stays as it was. It gives what Play answered.
func checkPlay(t *testing.T, told string, h impl.Hosted, events ...impl.Event) []impl.Answered {
	t.Helper()
	bundle, given := copiedBundle(h.Bundle), copiedEvents(events)
	answers := impl.Play(h, events)
	l := plainLink(h.Bundle, h.Main)
	want := plainPlay(h, l, events)
	got, wanted := answersTold(answers), answersTold(want)
	for i := range max(len(got), len(wanted)) {
		if i >= len(got) || i >= len(wanted) || got[i] != wanted[i] {
			t.Errorf("%s: %d answers, want %d; from %d on %s, want %s", told, len(got), len(wanted), i, shortly(got[min(i, len(got)):]), shortly(wanted[min(i, len(wanted)):]))
			break
		}
	}
	wantTold(t, told+": Told", impl.Told(h, events), plainTold(l, want))
	if !sameBundle(h.Bundle, bundle) || !sameEvents(events, given) {
		t.Errorf("%s: what was given has changed", told)
	}
	return answers
}

// checkAnswers: a play is as the plain one, and these are its answers, without their places.
func checkAnswers(t *testing.T, told string, h impl.Hosted, events []impl.Event, want ...string) []impl.Answered {
	t.Helper()
	answers := checkPlay(t, told, h, events...)
	var got []string
	for _, a := range answers {
		got = append(got, answerTold(a))
	}
	checkShown(t, told, got, want)
	return answers
}

// ev: an event of this Op with no fields; evN, evText: with this one.
func ev(op int) impl.Event               { return impl.Event{Op: op} }
func evN(op, n int) impl.Event           { return impl.Event{Op: op, N: n} }
func evText(op int, s string) impl.Event { return impl.Event{Op: op, Text: s} }
func evStop(s impl.Stop) impl.Event      { return impl.Event{Op: impl.HStop, Stop: s} }
func evSay(name, text string) impl.Event {
	return impl.Event{Op: impl.HSay, Name: name, Text: text}
}
func evCut(n int, kept ...bool) impl.Event { return impl.Event{Op: impl.HCut, N: n, Kept: kept} }

// counterHost: a module that imports another one, and counts what is said on channel c. Its fns are 11 and, for what is said, 12, whose
// lines are 73 and 74.
func counterHost() impl.Hosted {
	return hostOf("a", lined(`let n = 0`, `on("c", fn(x) {`, `	n = n + 1`, `	print(n, x)`, `})`, `print(import("./b"))`), "b", lined(`print("once")`, `return 7`))
}

// deepHost: fns that call themselves, and tasks that take turns; what is said on channel c is a number of calls.
func deepHost() impl.Hosted {
	return hostOf("a", lined(
		`fn deep(n) {`,
		`	print("deep", n)`,
		`	if n > 0 {deep(n - 1)}`,
		`	print("up", n)`,
		`	return n`,
		`}`,
		`let t = task(fn(x) {`,
		`	while true {`,
		`		x = x + 1`,
		`		deep(1)`,
		`		x = yield(x)`,
		`	}`,
		`})`,
		`on("c", fn(x) {`,
		`	let n = 0 + #x`,
		`	print("c", deep(n))`,
		`})`,
		`on("t", fn(x) {`,
		`	print("before")`,
		`	print(resume(t, #x))`,
		`	print("after")`,
		`})`,
		`on("e", fn(x) {`,
		`	try {`,
		`		deep(1)`,
		`		throw x`,
		`	} catch e {`,
		`		print("caught", e)`,
		`	}`,
		`	resume(task(fn() {throw x}))`,
		`	throw "off"`,
		`})`))
}

// respelt: the events that change a disk on which one journal is laid down as the first one into a disk on which another one is.
func respelt(t *testing.T, before, after impl.Journal) []impl.Event {
	t.Helper()
	old, now := plainJournalImage(before), plainPack(plainJournalGraph(after))
	if old == nil || now == nil {
		t.Fatalf("no image of %s or of %s", journalTold(before), journalTold(after))
	}
	return respeltDisk(laid(plainBlank(), 0, 1, old), laid(plainBlank(), 0, 1, now))
}

func respeltDisk(from, to impl.Disk) []impl.Event {
	var events []impl.Event
	for i, block := range from.Blocks {
		for k, b := range block {
			if m := b ^ to.Blocks[i][k]; m != 0 {
				events = append(events, impl.Event{Op: impl.HSpoil, N: 64*i + k, M: int(m)})
			}
		}
	}
	return events
}

// everyEvent: an event of each Op, some of them several times, with fields that have something to do with these hosts.
func everyEvent() map[string]impl.Event {
	all := map[string]impl.Event{
		"time 0": ev(impl.HTime), "time 2": evN(impl.HTime, 2), "input": evText(impl.HInput, "in"), "say c": evSay("c", "xx"), "say t": evSay("t", "x"), "say e": evSay("e", "x"),
		"pace": evN(impl.HPace, 3), "stop": evStop(onCall(12)), "stop on throw": evStop(impl.Stop{Kind: impl.OnThrow}), "clear 0": evN(impl.HClear, 0), "clear 1": evN(impl.HClear, 1),
		"where 0": evN(impl.HWhere, 0), "where 1": evN(impl.HWhere, 1), "where 99": evN(impl.HWhere, 99), "value k": {Op: impl.HValue, Name: "k"}, "value x": {Op: impl.HValue, Name: "x"}, "value house": {Op: impl.HValue, Name: "house"}, "value of none": {Op: impl.HValue, Name: "none"},
		"count 0": evN(impl.HCount, 0), "count 1": evN(impl.HCount, 1), "cut 0": evCut(0), "cut 2, kept": evCut(2, true, true), "cut all": evCut(200), "spoil a head": {Op: impl.HSpoil, N: 5, M: 1}, "spoil an image": {Op: impl.HSpoil, N: 130, M: 255}, "spoil nothing": {Op: impl.HSpoil, N: 258*64 - 1, M: 1},
		"code": evText(impl.HCode, "no code"), "no event": {Op: impl.HGo, N: 1},
	}
	for _, op := range []int{impl.HBegin, impl.HGo, impl.HInto, impl.HOver, impl.HOut, impl.HVars, impl.HLay, impl.HTake, impl.HLines} {
		all[fmt.Sprint("op ", op)] = ev(op)
	}
	return all
}

// everyEventName: the names of these, in order.
func everyEventName() []string { return slices.Sorted(maps.Keys(everyEvent())) }
