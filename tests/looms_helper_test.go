package tests

import (
	"fmt"
	"slices"
	"strings"
	"testing"

	"loop.example/heddle/impl"
)

// plainLoom is the plain machine, whose store gives nothing back, with the quick instructions of chapter 14 and a list that says in
// which slot each thing would stand at a pace.
type plainLoom struct {
	*plainMachine
	quickIns impl.Quick
	caches   []impl.Cache
	hits     int
	misses   int
	moves    int
	vers     int
	pace     int
	due      int
	peak     int
	most     int
	things   []plainThing        // in the order of making
	numbered map[[2]int]int      // the things by kind and number
	boxed    map[*impl.Value]int // the boxes among them
	slots    []int               // the number of a thing, -1 for a free one
}

type plainThing struct {
	kind   int
	number int // of a table or fn
	box    *impl.Value
	ver    int
	slot   int // -1 when it was given back
}

func plainLoomOf(c impl.Code, in impl.Input, pace int) *plainLoom {
	l := &plainLoom{plainMachine: plainMachineOf(c, in), quickIns: plainPrepared(c), pace: pace, numbered: map[[2]int]int{}, boxed: map[*impl.Value]int{}}
	l.caches = make([]impl.Cache, l.quickIns.Caches)
	l.made = func(kind, number int, box *impl.Value) {
		slot := slices.Index(l.slots, -1)
		if slot < 0 {
			slot = len(l.slots)
			l.slots = append(l.slots, 0)
		}
		l.slots[slot] = len(l.things)
		if kind == impl.SlotBox {
			l.boxed[box] = len(l.things)
		} else {
			l.numbered[[2]int{kind, number}] = len(l.things)
		}
		l.things = append(l.things, plainThing{kind: kind, number: number, box: box, slot: slot})
		if kind == impl.SlotTable {
			l.renewed(number)
		}
		l.due++
		l.peak = max(l.peak, len(l.slots))
	}
	l.renewed = func(table int) {
		l.vers++
		l.thing(impl.SlotTable, table).ver = l.vers
	}
	l.quick = l.quickly
	return l
}

func (l *plainLoom) thing(kind, number int) *plainThing {
	return &l.things[l.numbered[[2]int{kind, number}]]
}

// quickly does what stands for two or more instructions.
func (l *plainLoom) quickly(f *plainFrame) bool {
	q := l.quickIns.Protos[f.proto].Ins[f.at]
	consts := l.code.Protos[f.proto].Consts
	switch q.Op {
	case impl.QDrops:
		for range q.B {
			f.regs[q.A] = plainReg{}
			q.A++
			f.at++
		}
	case impl.QTest:
		c, d := f.operand(q.C).val, f.operand(q.D).val
		l.binary(q.B, c, d)
		if l.frame() != f {
			break // a handler is called
		}
		f.regs[q.A] = plainReg{}
		f.at += 2
		if impl.Truth(l.take()[0]) == (q.F == 1) {
			f.at = q.E
		}
	case impl.QWith:
		f.regs[q.F] = plainReg{}
		f.at++
		c, d := f.operand(q.C).val, consts[q.D]
		if q.E == 1 {
			c, d = d, c
		}
		l.binary(q.B, c, d)
	case impl.QField:
		f.regs[q.F] = plainReg{}
		f.at++
		l.readField(f.operand(q.B).val, consts[q.C], &l.caches[q.D])
	default:
		return false
	}
	return true
}

func (l *plainLoom) readField(v, k impl.Value, cache *impl.Cache) {
	if v.Kind != impl.KTable {
		l.misses++
		l.index(v, k)
		return
	}
	pairs, ver := l.tables[v.Ref].table.Pairs, l.thing(impl.SlotTable, v.Ref).ver
	if ver == cache.Ver {
		l.hits++
		l.give(pairs[cache.Place].Val)
		return
	}
	l.misses++
	for place, p := range pairs {
		if impl.Same(p.Key, k) {
			*cache = impl.Cache{Ver: ver, Place: place}
		}
	}
	l.index(v, k)
}

// step is one move, with the giving back that may be part of it.
func (l *plainLoom) step() {
	alive, tasks := aliveOf(l.machine())
	count := 0
	for _, is := range alive {
		if is {
			count++
		}
	}
	l.most = max(l.most, count)
	if l.pace > 0 && l.due >= l.pace {
		l.giveBack(alive, tasks)
	}
	l.moves++
	l.guardedMove()
}

func (l *plainLoom) giveBack(alive, tasks []bool) {
	for slot, is := range alive {
		if n := l.slots[slot]; !is && n >= 0 {
			l.things[n].slot, l.slots[slot] = -1, -1
		}
	}
	for len(l.slots) > 0 && l.slots[len(l.slots)-1] < 0 {
		l.slots = l.slots[:len(l.slots)-1]
	}
	for n, t := range l.tasks {
		if !tasks[n] && (t.state == "new" || t.state == "waiting") {
			*t = plainTask{state: "lost", waiter: -1}
		}
	}
	l.due = 0
}

// machine is all of it as the document has it.
func (l *plainLoom) machine() impl.Machine {
	if l.over {
		return impl.Machine{Pace: l.pace, Hits: l.hits, Misses: l.misses, Over: true, Moves: l.moves, Rep: l.rep}
	}
	m := impl.Machine{Pace: l.pace, Due: l.due, Read: l.read, Births: len(l.things), Vers: l.vers, Caches: slices.Clone(l.caches), Hits: l.hits, Misses: l.misses,
		Cur: l.cur, Has: l.has, Got: l.vals(l.got), Way: l.wayOf(l.way), Live: l.live, Since: l.since, Moves: l.moves, Rep: l.rep}
	for _, n := range l.slots {
		m.Slots = append(m.Slots, l.slotOf(n))
	}
	states := []string{"new", "waiting", "running", "busy", "done", "lost"}
	for _, t := range l.tasks {
		k := impl.Task{State: slices.Index(states, t.state), Fn: l.val(t.fn), Waiter: t.waiter, Giving: t.giving, Dropped: l.vals(t.dropped)}
		for _, f := range t.frames {
			k.Frames = append(k.Frames, l.frameOf(f))
		}
		m.Tasks = append(m.Tasks, k)
	}
	return m
}

func (l *plainLoom) slotOf(n int) impl.Slot {
	if n < 0 {
		return impl.Slot{}
	}
	x := l.things[n]
	s := impl.Slot{Kind: x.kind, Born: n + 1}
	switch x.kind {
	case impl.SlotTable:
		t := l.tables[x.number]
		s.Ver, s.Wants, s.Of = x.ver, t.wants, -1
		if t.kind.Kind == impl.KTable {
			s.Of = l.val(t.kind).Ref
		}
		s.Table.Turns = t.table.Turns
		for _, p := range t.table.Pairs {
			s.Table.Pairs = append(s.Table.Pairs, impl.Pair{Key: l.val(p.Key), Val: l.val(p.Val), Turn: p.Turn})
		}
	case impl.SlotFn:
		s.Proto = l.fns[x.number].proto
		for _, box := range l.fns[x.number].ups {
			s.Ups = append(s.Ups, l.boxSlot(box))
		}
	case impl.SlotBox:
		s.Value = l.val(*x.box)
	}
	return s
}

func (l *plainLoom) boxSlot(box *impl.Value) int {
	if slot := l.things[l.boxed[box]].slot; slot >= 0 {
		return slot
	}
	panic("a box that was given back")
}

// val is a value with the slot of what it names.
func (l *plainLoom) val(v impl.Value) impl.Value {
	if v.Kind == impl.KTable || v.Kind == impl.KFn {
		kind := map[int]int{impl.KTable: impl.SlotTable, impl.KFn: impl.SlotFn}[v.Kind]
		v.Ref = l.thing(kind, v.Ref).slot
		if v.Ref < 0 {
			panic("a thing that was given back")
		}
	}
	return v
}

func (l *plainLoom) vals(vals []impl.Value) []impl.Value {
	var out []impl.Value
	for _, v := range vals {
		out = append(out, l.val(v))
	}
	return out
}

func (l *plainLoom) wayOf(w plainWay) impl.Way {
	kind := slices.Index([]string{"", "return", "error", "gone"}, w.kind)
	return impl.Way{Kind: kind, Vals: l.vals(w.vals), Trace: w.trace}
}

func (l *plainLoom) frameOf(f *plainFrame) impl.Frame {
	switch f.kind {
	case "code":
	case "collect":
		return impl.Frame{Kind: impl.FCollect, Step: f.step, Round: f.round, Vals: l.vals(f.vals)}
	default:
		return impl.Frame{Kind: impl.FAfter, Then: 1 + slices.Index([]string{"first", "truth", "not", "drop"}, f.kind)}
	}
	out := impl.Frame{Kind: impl.FCode, Proto: f.proto, Self: -1, At: f.at, Line: f.line, Leaving: f.leaving, Limit: f.limit}
	if f.self.Kind == impl.KFn {
		out.Self = l.val(f.self).Ref
	}
	if f.leaving {
		out.Saved, out.One, out.Way = f.saved, f.one, l.wayOf(f.way)
	}
	for _, r := range f.regs {
		reg := impl.Reg{Value: l.val(r.val), List: l.vals(r.list)}
		reg.Type = slices.Index([]string{"", "value", "box", "list"}, r.kind)
		if r.box != nil {
			reg.Box = l.boxSlot(r.box)
		}
		out.Regs = append(out.Regs, reg)
	}
	for _, g := range f.guards {
		fence := impl.Fence{Try: g.try, Keep: g.keep, Handler: g.handler, Line: g.line}
		for _, d := range g.defers {
			fence.Defers = append(fence.Defers, impl.KeptCall{Line: d.line, Vals: l.vals(append([]impl.Value{d.what}, d.args...))})
		}
		out.Fences = append(out.Fences, fence)
	}
	return out
}

// handsOf: all values that a task has in its hands, and the slots of boxes in its registers.
func handsOf(t impl.Task) (vals []impl.Value, boxes []int) {
	vals = append([]impl.Value{t.Fn}, t.Dropped...)
	for _, f := range t.Frames {
		if f.Kind == impl.FCode && f.Self >= 0 {
			vals = append(vals, vRef(impl.KFn, f.Self))
		}
		for _, r := range f.Regs {
			vals = append(append(vals, r.Value), r.List...)
			if r.Type == impl.TBox {
				boxes = append(boxes, r.Box)
			}
		}
		vals = append(append(vals, f.Vals...), f.Way.Vals...)
		for _, g := range f.Fences {
			for _, d := range g.Defers {
				vals = append(vals, d.Vals...)
			}
		}
	}
	return vals, boxes
}

// aliveOf: which slots and tasks are alive, by the words of 15.13 again and again until nothing comes any more.
func aliveOf(m impl.Machine) (slots, tasks []bool) {
	slots, tasks = make([]bool, len(m.Slots)), make([]bool, len(m.Tasks))
	came := false
	mark := func(list []bool, n int) {
		came = came || !list[n]
		list[n] = true
	}
	reach := func(vals ...impl.Value) {
		for _, v := range vals {
			switch v.Kind {
			case impl.KTable, impl.KFn:
				mark(slots, v.Ref)
			case impl.KTask:
				mark(tasks, v.Ref)
			}
		}
	}
	for again := true; again; again = came {
		came = false
		reach(append(slices.Clone(m.Got), m.Way.Vals...)...)
		for n, t := range m.Tasks {
			if t.State == impl.RRunning || t.State == impl.RBusy {
				mark(tasks, n)
			}
			if !tasks[n] || t.State >= impl.RDone {
				continue
			}
			vals, boxes := handsOf(t)
			reach(vals...)
			for _, box := range boxes {
				mark(slots, box)
			}
		}
		for n, s := range m.Slots {
			if s.Wants {
				mark(slots, n)
			}
			if !slots[n] {
				continue
			}
			reach(s.Value)
			for _, box := range s.Ups {
				mark(slots, box)
			}
			for _, p := range s.Table.Pairs {
				reach(p.Key, p.Val)
			}
			if s.Kind == impl.SlotTable && s.Of >= 0 {
				mark(slots, s.Of)
			}
		}
	}
	return slots, tasks
}

// meeter goes through a machine in the order that Canon asks for.
type meeter struct {
	m     impl.Machine
	order []int        // slots, as they are met
	line  []impl.Value // tables, fns and tasks, as they are met
}

func (x *meeter) meet(vals ...impl.Value) {
	for _, v := range vals {
		isThing := v.Kind == impl.KTable || v.Kind == impl.KFn || v.Kind == impl.KTask
		if !isThing || slices.Contains(x.line, v) {
			continue
		}
		x.line = append(x.line, v)
		if v.Kind != impl.KTask {
			x.order = append(x.order, v.Ref)
		}
	}
}

func (x *meeter) box(slot int) {
	if !slices.Contains(x.order, slot) {
		x.order = append(x.order, slot)
		x.meet(x.m.Slots[slot].Value)
	}
}

func (x *meeter) task(t impl.Task) {
	x.meet(t.Fn)
	x.meet(t.Dropped...)
	for _, f := range t.Frames {
		if f.Kind == impl.FCode && f.Self != -1 {
			x.meet(vRef(impl.KFn, f.Self))
		}
		for _, r := range f.Regs {
			x.meet(r.Value)
			x.meet(r.List...)
			if r.Type == impl.TBox {
				x.box(r.Box)
			}
		}
		x.meet(f.Vals...)
		x.meet(f.Way.Vals...)
		for _, g := range f.Fences {
			for _, d := range g.Defers {
				x.meet(d.Vals...)
			}
		}
	}
}

func (x *meeter) run() {
	for t := x.m.Cur; t != -1; t = x.m.Tasks[t].Waiter {
		x.task(x.m.Tasks[t])
	}
	x.meet(x.m.Got...)
	x.meet(x.m.Way.Vals...)
	for born := 1; born <= x.m.Births; born++ {
		for n, s := range x.m.Slots {
			if s.Wants && s.Born == born {
				x.meet(vRef(impl.KTable, n))
			}
		}
	}
	for i := 0; i < len(x.line); i++ {
		v := x.line[i]
		if v.Kind == impl.KTask {
			if t := x.m.Tasks[v.Ref]; t.State == impl.RNew || t.State == impl.RWaiting {
				x.task(t)
			}
			continue
		}
		s := x.m.Slots[v.Ref]
		for _, box := range s.Ups {
			x.box(box)
		}
		if s.Kind == impl.SlotTable && s.Of != -1 {
			x.meet(vRef(impl.KTable, s.Of))
		}
		for _, p := range s.Table.Pairs {
			x.meet(p.Key, p.Val)
		}
	}
}

// slotNames: each place of a machine that names a slot. The machine's lists are written into by who changes them.
func slotNames(m *impl.Machine) []*int {
	var names []*int
	value := func(v *impl.Value) {
		if v.Kind == impl.KTable || v.Kind == impl.KFn {
			names = append(names, &v.Ref)
		}
	}
	values := func(vals []impl.Value) {
		for i := range vals {
			value(&vals[i])
		}
	}
	for i := range m.Slots {
		s := &m.Slots[i]
		value(&s.Value)
		for j := range s.Ups {
			names = append(names, &s.Ups[j])
		}
		for j := range s.Table.Pairs {
			value(&s.Table.Pairs[j].Key)
			value(&s.Table.Pairs[j].Val)
		}
		if s.Kind == impl.SlotTable && s.Of >= 0 {
			names = append(names, &s.Of)
		}
	}
	values(m.Got)
	values(m.Way.Vals)
	for i := range m.Tasks {
		t := &m.Tasks[i]
		value(&t.Fn)
		values(t.Dropped)
		for j := range t.Frames {
			f := &t.Frames[j]
			if f.Kind == impl.FCode && f.Self >= 0 {
				names = append(names, &f.Self)
			}
			values(f.Vals)
			values(f.Way.Vals)
			for k := range f.Regs {
				value(&f.Regs[k].Value)
				values(f.Regs[k].List)
				if f.Regs[k].Type == impl.TBox {
					names = append(names, &f.Regs[k].Box)
				}
			}
			for _, g := range f.Fences {
				for _, d := range g.Defers {
					values(d.Vals)
				}
			}
		}
	}
	return names
}

// canonOf: a machine that may be written into, in the form that Canon asks for.
func canonOf(m impl.Machine) impl.Machine {
	m.Pace = 0
	if m.Over {
		return m
	}
	m.Due = 0
	alive, tasks := aliveOf(m)
	for n, t := range m.Tasks {
		if !tasks[n] && (t.State == impl.RNew || t.State == impl.RWaiting) {
			m.Tasks[n] = impl.Task{State: impl.RLost, Waiter: -1}
		}
	}
	for n, is := range alive {
		if !is {
			m.Slots[n] = impl.Slot{}
		}
	}
	x := meeter{m: m}
	x.run()
	for _, name := range slotNames(&m) {
		*name = slices.Index(x.order, *name)
	}
	var slots []impl.Slot
	for _, n := range x.order {
		slots = append(slots, m.Slots[n])
	}
	m.Slots = slots
	return m
}

// checkLoom: at each of the first moves of a run, at some of the others and behind the last one, at each pace, a machine is what the
// plain one is, with what is alive and in its form without places; and all that is told of the whole run.
func checkLoom(t *testing.T, told string, c impl.Code, in impl.Input, first int, paces ...int) bool {
	t.Helper()
	moves := impl.Moves(c, in)
	stride := 1 + moves/25
	for _, pace := range paces {
		l := plainLoomOf(c, in, pace)
		l.looks = true
		for n := 0; ; n++ {
			chosen := n < first || n%stride == 0 || l.over
			if chosen && !checkStand(t, fmt.Sprint(told, " at pace ", pace, " behind ", n), c, in, pace, n, l.machine()) {
				return false
			}
			if l.over {
				break
			}
			l.step()
		}
		if l.moves != moves {
			t.Errorf("%s at pace %d: %d moves, want %d\n%s", told, pace, moves, l.moves, codeTold(c))
			return false
		}
		if !checkWholeRun(t, told, c, in, l) {
			return false
		}
	}
	return true
}

func checkStand(t *testing.T, told string, c impl.Code, in impl.Input, pace, n int, want impl.Machine) bool {
	t.Helper()
	if got := impl.Stand(c, in, pace, n); machineTold(got) != machineTold(want) {
		t.Errorf("%s: Stand\n%s\nwant\n%s\n%s", told, machineTold(got), machineTold(want), codeTold(c))
		return false
	}
	alive, _ := aliveOf(want)
	if got := impl.Alive(c, in, pace, n); !slices.Equal(got, alive) {
		t.Errorf("%s: alive %v, want %v of\n%s\n%s", told, got, alive, machineTold(want), codeTold(c))
		return false
	}
	stands := machineTold(want)
	canon := machineTold(canonOf(want))
	if got := impl.Canon(c, in, pace, n); machineTold(got) != canon {
		t.Errorf("%s: Canon\n%s\nwant\n%s\nof\n%s\n%s", told, machineTold(got), canon, stands, codeTold(c))
		return false
	}
	return true
}

// checkWholeRun: with a plain machine that has come to its end.
func checkWholeRun(t *testing.T, told string, c impl.Code, in impl.Input, l *plainLoom) bool {
	t.Helper()
	if got := impl.Peak(c, in, l.pace); got != l.peak {
		t.Errorf("%s at pace %d: Peak %d, want %d\n%s", told, l.pace, got, l.peak, codeTold(c))
		return false
	}
	if got := impl.Most(c, in); got != l.most {
		t.Errorf("%s: Most %d, want %d\n%s", told, got, l.most, codeTold(c))
		return false
	}
	if got := impl.RunLoom(c, in, l.pace); !sameReport(got, l.rep) {
		t.Errorf("%s at pace %d: %s, want %s\n%s", told, l.pace, reportTold(got), reportTold(l.rep), codeTold(c))
		return false
	}
	for k, view := range l.views {
		if k >= 20 && k%(1+len(l.views)/20) > 0 {
			continue
		}
		if got := impl.LookLoom(c, in, l.pace, k); !sameView(got, view) {
			t.Errorf("%s at pace %d: at record %d %+v, want %+v\n%s", told, l.pace, k, got, view, codeTold(c))
			return false
		}
	}
	return true
}

func reportTold(r impl.Report) string {
	return fmt.Sprintf("%s ticks %d made %d", strings.Join(stepsTold(r), "; "), r.Ticks, r.Made)
}

// checkLoomSame: the machine has this report at several paces; of a run that is not long, it is what the plain one is behind each of
// its first moves and some of the others, at one of the paces from 0 to 3.
func checkLoomSame(t *testing.T, told string, c impl.Code, in impl.Input, want impl.Report) {
	t.Helper()
	for _, pace := range []int{2, 7, impl.MaxPace} {
		if got := impl.RunLoom(c, in, pace); !sameReport(got, want) {
			t.Errorf("%s at pace %d: %s, want %s\n%s", told, pace, reportTold(got), reportTold(want), codeTold(c))
		}
	}
	if impl.Moves(c, in) < 2000 {
		checkLoom(t, told, c, in, 12, len(told)%4)
	}
}
