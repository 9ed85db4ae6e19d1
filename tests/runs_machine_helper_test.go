package tests

import (
	"slices"
	"strconv"
	"strings"

	"loop.example/heddle/impl"
)

// plainMachine does code by chapter 12, cut into the moves of 15.12: one list of frames a task, no goroutine, no closure. It leans on
// chapter 7 for what values and tables are, and on nothing of the runs of units, against which it is held.
type plainMachine struct {
	code   impl.Code
	in     impl.Input
	tables []*plainTable
	fns    []plainFn
	tasks  []*plainTask
	cur    int
	read   int
	live   int
	since  int
	has    bool
	got    []impl.Value
	way    plainWay
	over   bool
	rep    impl.Report
	looks  bool
	views  []impl.View         // at each record, when it looks
	ahead  func(f *plainFrame) // ahead of each instruction

	made    func(kind, number int, box *impl.Value) // at each table, fn and box that is made
	renewed func(table int)                         // when pairs have come to a table or gone from it
	quick   func(f *plainFrame) bool                // does an instruction in another way; false when there is none
}

type plainTable struct {
	table impl.Table
	kind  impl.Value
	wants bool
}

type plainFn struct {
	proto int
	ups   []*impl.Value
}

type plainWay struct {
	kind  string // return, error, gone
	vals  []impl.Value
	trace string
}

type plainReg struct {
	kind string // value, box, list
	val  impl.Value
	box  *impl.Value
	list []impl.Value
}

type plainKept struct {
	line int
	what impl.Value
	args []impl.Value
}

type plainGuard struct {
	try     bool
	keep    int
	handler int
	line    int
	defers  []plainKept
}

type plainFrame struct {
	kind    string // code, first, truth, not, drop, collect
	proto   int
	self    impl.Value
	at      int
	line    int
	saved   int
	regs    []plainReg
	guards  []plainGuard
	leaving bool
	one     bool
	way     plainWay
	limit   int
	round   bool
	step    int
	vals    []impl.Value
}

type plainTask struct {
	state   string
	fn      impl.Value
	frames  []*plainFrame
	waiter  int
	giving  bool
	dropped []impl.Value
}

// plainThrown, plainOver: what ends an instruction early.
type (
	plainThrown struct{}
	plainOver   struct{}
)

// plainRun: the report of a unit's code, and what can be seen at each record when it looks.
func plainRun(u impl.Unit, in impl.Input, looks bool) (impl.Report, []impl.View) {
	m := plainMachineOf(plainCompiled(u), in)
	m.looks = looks
	m.run()
	return m.rep, m.views
}

func plainMachineOf(c impl.Code, in impl.Input) *plainMachine {
	m := &plainMachine{code: c, in: in, tasks: []*plainTask{{state: "running", waiter: -1}}, ahead: func(*plainFrame) {}}
	m.made, m.renewed = func(int, int, *impl.Value) {}, func(int) {}
	m.quick = func(*plainFrame) bool { return false }
	var args []impl.Value
	for _, arg := range in.Args {
		args = append(args, vStr(arg))
	}
	m.open(0, impl.Value{}, args)
	return m
}

func (m *plainMachine) run() {
	for !m.over {
		m.guardedMove()
	}
}

func (m *plainMachine) guardedMove() {
	defer func() {
		switch p := recover().(type) {
		case nil, plainThrown:
		case plainOver:
			m.rep.Code, m.over = 2, true
		default:
			panic(p)
		}
	}()
	m.move()
}

func (m *plainMachine) task() *plainTask { return m.tasks[m.cur] }

func (m *plainMachine) frame() *plainFrame {
	frames := m.task().frames
	if len(frames) == 0 {
		return nil
	}
	return frames[len(frames)-1]
}

// innermost: the innermost open call.
func (m *plainMachine) innermost() *plainFrame {
	for _, f := range slices.Backward(m.task().frames) {
		if f.kind == "code" {
			return f
		}
	}
	return nil
}

func (m *plainMachine) push(f *plainFrame) { m.task().frames = append(m.task().frames, f) }

func (m *plainMachine) pop() {
	t := m.task()
	t.frames = t.frames[:len(t.frames)-1]
}

func (m *plainMachine) give(vals ...impl.Value) { m.has, m.got = true, vals }

func (m *plainMachine) take() []impl.Value {
	got := m.got
	m.has, m.got = false, nil
	return got
}

func (m *plainMachine) takeWay() plainWay {
	way := m.way
	m.way = plainWay{}
	return way
}

func (m *plainMachine) tick() {
	if m.rep.Ticks == m.in.Ticks {
		panic(plainOver{})
	}
	m.rep.Ticks++
}

// record: with a fn of -1 that of the innermost open call.
func (m *plainMachine) record(kind, fn, line int, text string) {
	if len(m.rep.Recs) == impl.MaxRecs {
		panic(plainOver{})
	}
	if c := m.innermost(); fn < 0 && c != nil {
		fn = c.proto
	}
	m.rep.Recs = append(m.rep.Recs, impl.Rec{Kind: kind, Task: m.cur, Fn: max(fn, 0), Line: line, Text: text})
	if m.looks {
		m.views = append(m.views, m.view())
	}
}

func (m *plainMachine) view() impl.View {
	v := impl.View{Ok: true, Task: m.cur}
	for _, f := range slices.Backward(m.task().frames) {
		if f.kind != "code" {
			continue
		}
		o := impl.Open{Fn: f.proto, Line: f.line}
		for _, n := range m.code.Protos[f.proto].Named {
			reg := f.regs[n.Reg]
			if f.at < n.From || f.at >= n.To || f.limit >= 0 && n.Reg >= f.limit {
				continue
			}
			switch reg.kind {
			case "value":
				o.Vars = append(o.Vars, impl.Shown{Name: n.Name, Text: impl.Text(reg.val)})
			case "box":
				o.Vars = append(o.Vars, impl.Shown{Name: n.Name, Text: impl.Text(*reg.box)})
			}
		}
		v.Calls = append(v.Calls, o)
	}
	return v
}

func (m *plainMachine) told(v impl.Value) string {
	if v.Kind == impl.KTable {
		if code := m.get(v, vStr("code")); code.Kind == impl.KInt {
			return "error " + impl.Text(code)
		}
	}
	return impl.Text(v)
}

func (m *plainMachine) line() int {
	if f := m.innermost(); f != nil {
		return f.line
	}
	return 0
}

func (m *plainMachine) throw(v impl.Value) {
	var trace []string
	for _, f := range slices.Backward(m.task().frames) {
		if f.kind != "code" {
			continue
		}
		name := m.code.Protos[f.proto].Name
		if name == "" {
			name = "fn"
		}
		trace = append(trace, name+":"+strconv.Itoa(f.line))
	}
	m.record(impl.RecThrow, -1, m.line(), m.told(v))
	m.way = plainWay{kind: "error", vals: []impl.Value{v}, trace: strings.Join(trace, " ")}
	m.has, m.got = false, nil
	panic(plainThrown{})
}

func (m *plainMachine) fail(code int) {
	t := impl.Put(impl.Table{}, vStr("code"), vInt(int64(code)))
	m.tables = append(m.tables, &plainTable{table: impl.Put(t, vStr("line"), vInt(int64(m.line())))})
	m.made(impl.SlotTable, len(m.tables)-1, nil)
	m.throw(vRef(impl.KTable, len(m.tables)-1))
}

func (m *plainMachine) pay(cells int) {
	if m.live+m.since+cells > m.in.Cells {
		m.fail(impl.ErrCells)
	}
	m.since += cells
	m.rep.Made += cells
}

func (m *plainMachine) get(table, k impl.Value) impl.Value {
	return impl.Get(m.tables[table.Ref].table, k)
}

func (m *plainMachine) handler(v impl.Value, name string) impl.Value {
	if v.Kind != impl.KTable || m.tables[v.Ref].kind.Kind == impl.KNil {
		return impl.Value{}
	}
	return m.get(m.tables[v.Ref].kind, vStr(name))
}

func (m *plainMachine) raw(table, k, v impl.Value) {
	t := m.tables[table.Ref]
	if impl.Key(k).Code != 0 {
		m.fail(impl.ErrKey)
	}
	if v.Kind != impl.KNil && impl.Get(t.table, k).Kind == impl.KNil {
		if len(t.table.Pairs) == impl.MaxPairs {
			m.fail(impl.ErrLong)
		}
		m.pay(1)
	}
	count := len(t.table.Pairs)
	t.table = impl.Put(t.table, k, v)
	if len(t.table.Pairs) != count {
		m.renewed(table.Ref)
	}
}

func (m *plainMachine) move() {
	f := m.frame()
	switch {
	case f == nil:
		m.endTask()
	case m.way.kind != "":
		m.wayComes(f)
	case f.kind == "collect":
		m.collects(f)
	case f.kind != "code":
		m.after(f)
	case f.leaving:
		m.leaves(f)
	default:
		if !m.has {
			m.ahead(f)
			m.do(f)
		}
		if f := m.frame(); m.has && m.way.kind == "" && f != nil && f.kind == "code" && !f.leaving {
			m.complete(f)
		}
	}
}

func (m *plainMachine) endTask() {
	way, vals := m.takeWay(), m.take()
	if m.cur == 0 {
		m.over = true
		if way.kind == "error" {
			m.rep.Code, m.rep.Error, m.rep.Trace = 1, m.told(way.vals[0]), way.trace
			return
		}
		for _, v := range vals {
			m.rep.Vals = append(m.rep.Vals, impl.Text(v))
		}
		return
	}
	t := m.task()
	out, text := append([]impl.Value{vBool(true)}, vals...), "done"
	switch way.kind {
	case "error":
		out, text = []impl.Value{vBool(false), way.vals[0], vStr(way.trace)}, "error"
	case "gone":
		out, text = []impl.Value{vBool(true)}, "gone"
		if t.dropped != nil {
			out = t.dropped
		}
	}
	t.state, t.giving, t.dropped = "done", false, nil
	m.handBack(t, text)
	m.give(out...)
}

func (m *plainMachine) handBack(t *plainTask, text string) {
	m.cur = t.waiter
	t.waiter = -1
	m.task().state = "running"
	m.record(impl.RecTurn, 0, 0, text)
}

func (m *plainMachine) wayComes(f *plainFrame) {
	way := m.takeWay()
	m.take()
	switch {
	case f.kind == "collect" && way.kind == "error":
		m.record(impl.RecCatch, 0, 0, m.told(way.vals[0]))
		m.give()
	case f.kind != "code":
		m.pop()
		m.way = way
	case !f.leaving:
		f.leaving, f.one, f.way, f.saved = true, false, way, f.line
	case f.way.kind == "gone":
		m.task().dropped = []impl.Value{vBool(false), way.vals[0], vStr(way.trace)}
	default:
		f.one, f.way = false, way
	}
}

func (m *plainMachine) after(f *plainFrame) {
	vals := append(m.take(), impl.Value{})
	m.pop()
	switch f.kind {
	case "first":
		m.give(vals[0])
	case "truth":
		m.give(vBool(impl.Truth(vals[0])))
	case "not":
		m.give(vBool(!impl.Truth(vals[0])))
	case "drop":
		m.give()
	}
}

func (m *plainMachine) leaves(f *plainFrame) {
	m.take()
	f.line = f.saved
	if len(f.guards) == 0 {
		m.endCall(f)
		return
	}
	g := &f.guards[len(f.guards)-1]
	if g.try {
		caught := *g
		f.guards = f.guards[:len(f.guards)-1]
		if f.way.kind == "error" {
			m.caught(f, caught)
		}
		return
	}
	if !f.one {
		f.limit = g.keep
		clear(f.regs[g.keep:])
	}
	if n := len(g.defers); n > 0 {
		d := g.defers[n-1]
		g.defers = g.defers[:n-1]
		f.line = d.line
		m.call(d.what, d.args)
		return
	}
	f.guards = f.guards[:len(f.guards)-1]
	if f.one {
		f.leaving, f.way = false, plainWay{}
		f.at++
	}
}

func (m *plainMachine) endCall(f *plainFrame) {
	f.limit, f.line = m.code.Protos[f.proto].Params, 0
	if f.self.Kind == impl.KFn {
		text := f.way.kind
		if text == "return" {
			text = ""
		}
		m.record(impl.RecBack, -1, 0, text)
	}
	m.pop()
	if f.way.kind == "return" {
		m.give(f.way.vals...)
	} else {
		m.way = f.way
	}
}

func (m *plainMachine) caught(f *plainFrame, g plainGuard) {
	clear(f.regs[g.keep:])
	f.leaving, f.limit, f.at, f.line = false, -1, g.handler, g.line
	way := f.way
	f.way = plainWay{}
	m.record(impl.RecCatch, -1, g.line, m.told(way.vals[0]))
	f.regs[g.keep] = plainReg{kind: "value", val: way.vals[0]}
	f.regs[g.keep+1] = plainReg{kind: "value", val: vStr(way.trace)}
}

// operand: reads a register, and takes it when the field says so.
func (f *plainFrame) operand(x int) plainReg {
	if x >= 0 {
		return f.regs[x]
	}
	reg := f.regs[-1-x]
	f.regs[-1-x] = plainReg{}
	return reg
}

func (f *plainFrame) put(r int, v impl.Value) { f.regs[r] = plainReg{kind: "value", val: v} }

func (f *plainFrame) putList(r int, vals []impl.Value) {
	f.regs[r] = plainReg{kind: "list", list: slices.Clone(vals)}
}

// do: one instruction; those that stay are completed with what is given.
func (m *plainMachine) do(f *plainFrame) {
	if m.quick(f) {
		return
	}
	i := m.code.Protos[f.proto].Ins[f.at]
	switch i.Op {
	case impl.IIndex:
		b, c := f.operand(i.B).val, f.operand(i.C).val
		m.index(b, c)
		return
	case impl.ISet:
		a, b, c := f.operand(i.A).val, f.operand(i.B).val, f.operand(i.C).val
		m.set(a, b, c)
		return
	case impl.IUnary:
		m.unary(i.B, f.operand(i.C).val)
		return
	case impl.IBinary:
		c, d := f.operand(i.C).val, f.operand(i.D).val
		m.binary(i.B, c, d)
		return
	case impl.ICall:
		b, c := f.operand(i.B).val, f.operand(i.C).list
		m.call(b, c)
		return
	case impl.IEach:
		m.each(f, i.A)
		return
	case impl.IEachNext:
		m.eachNext(f, i)
		return
	case impl.IReturn:
		f.leaving, f.one, f.saved = true, false, f.line
		f.way = plainWay{kind: "return", vals: f.operand(i.A).list}
		return
	case impl.ILeave:
		f.leaving, f.one, f.saved = true, true, f.line
		return
	case impl.IThrow:
		m.throw(f.operand(i.A).val)
	}
	f.at = m.plainIns(f, i)
}

// plainIns: an instruction that calls nothing; tells where it goes on.
func (m *plainMachine) plainIns(f *plainFrame, i impl.Ins) int {
	p := &m.code.Protos[f.proto]
	next := f.at + 1
	switch i.Op {
	case impl.ILine:
		m.tick()
		f.line = i.A
		m.record(impl.RecLine, -1, i.A, "")
	case impl.IAt:
		f.line = i.A
	case impl.ITick:
		m.tick()
	case impl.IConst:
		f.put(i.A, p.Consts[i.B])
	case impl.IMove:
		f.put(i.A, f.operand(i.B).val)
	case impl.IBox:
		v := f.operand(i.B).val
		f.regs[i.A] = plainReg{kind: "box", box: &v}
		m.made(impl.SlotBox, 0, &v)
	case impl.IGet:
		f.put(i.A, *f.regs[i.B].box)
	case impl.IPut:
		*f.regs[i.A].box = f.operand(i.B).val
	case impl.IUpGet:
		f.put(i.A, *m.fns[f.self.Ref].ups[i.B])
	case impl.IUpPut:
		*m.fns[f.self.Ref].ups[i.A] = f.operand(i.B).val
	case impl.IFn:
		m.makeFn(f, i)
	case impl.ITable:
		m.pay(1)
		m.tables = append(m.tables, &plainTable{})
		m.made(impl.SlotTable, len(m.tables)-1, nil)
		f.put(i.A, vRef(impl.KTable, len(m.tables)-1))
	case impl.IRaw:
		k, v := f.operand(i.B).val, f.operand(i.C).val
		if f.regs[i.A].val.Kind != impl.KTable {
			m.fail(impl.ErrIndex)
		}
		m.raw(f.regs[i.A].val, k, v)
	case impl.IRawAll:
		k, vals := f.operand(i.B).val, f.operand(i.C).list
		if f.regs[i.A].val.Kind != impl.KTable {
			m.fail(impl.ErrIndex)
		}
		if k.Kind != impl.KInt {
			m.fail(impl.ErrKey)
		}
		for j, v := range vals {
			m.raw(f.regs[i.A].val, vInt(k.Num+int64(j)), v)
		}
	case impl.IJump:
		return i.A
	case impl.IIf, impl.IUnless:
		if impl.Truth(f.operand(i.A).val) == (i.Op == impl.IIf) {
			return i.B
		}
	case impl.IList:
		f.putList(i.A, nil)
	case impl.IAdd:
		more := f.operand(i.B).val
		if len(f.regs[i.A].list) >= impl.MaxList {
			m.fail(impl.ErrLong)
		}
		f.putList(i.A, append(f.regs[i.A].list, more))
	case impl.IJoin:
		more := f.operand(i.B).list
		if len(f.regs[i.A].list)+len(more) > impl.MaxList {
			m.fail(impl.ErrLong)
		}
		f.putList(i.A, append(f.regs[i.A].list, more...))
	case impl.IFirst:
		f.put(i.A, append(f.operand(i.B).list, impl.Value{})[0])
	case impl.IPick:
		f.put(i.A, append(slices.Clone(f.regs[i.B].list), make([]impl.Value, i.C+1)...)[i.C])
	case impl.ICopy:
		f.putList(i.A, f.regs[i.B].list)
	case impl.ITry:
		f.guards = append(f.guards, plainGuard{try: true, keep: i.B, handler: i.A, line: f.line})
	case impl.IScope:
		f.guards = append(f.guards, plainGuard{keep: i.A})
	case impl.IEndTry:
		f.guards = f.guards[:len(f.guards)-1]
	case impl.IKeep:
		f.guards[len(f.guards)-1].keep = i.A
	case impl.IDefer:
		g := &f.guards[len(f.guards)-1]
		what, args := f.operand(i.A).val, f.operand(i.B).list
		g.defers = append(g.defers, plainKept{line: f.line, what: what, args: args})
	case impl.IFor:
		m.forBegins(f.regs[i.A : i.A+3])
	case impl.IForTest:
		at, to, step := f.regs[i.A].val, f.regs[i.A+1].val, f.regs[i.A+2].val
		down := impl.Compare(step, vInt(0)) == -1
		if o := impl.Compare(at, to); o > 1 || o == 1 && !down || o == -1 && down {
			return i.B
		}
	case impl.IForNext:
		at, step := f.regs[i.A].val, f.regs[i.A+2].val
		added := impl.Binary(impl.OpAdd, at, step)
		sum := added.Value.Num
		turned := step.Num == 0 || step.Num > 0 && sum < at.Num || step.Num < 0 && sum > at.Num
		if added.Code != 0 || at.Kind == impl.KInt && step.Kind == impl.KInt && turned {
			return next
		}
		f.put(i.A, added.Value)
		return i.B
	case impl.IDrop:
		f.regs[i.A] = plainReg{}
	}
	return next
}

func (m *plainMachine) makeFn(f *plainFrame, i impl.Ins) {
	fn := plainFn{proto: i.B}
	for _, up := range m.code.Protos[i.B].Ups {
		if up.Local {
			fn.ups = append(fn.ups, f.regs[up.Index].box)
		} else {
			fn.ups = append(fn.ups, m.fns[f.self.Ref].ups[up.Index])
		}
	}
	m.pay(1 + len(fn.ups))
	m.fns = append(m.fns, fn)
	m.made(impl.SlotFn, len(m.fns)-1, nil)
	f.put(i.A, vRef(impl.KFn, len(m.fns)-1))
}

func (m *plainMachine) forBegins(regs []plainReg) {
	floats := false
	for _, r := range regs {
		if r.val.Kind != impl.KInt && r.val.Kind != impl.KFlt {
			m.fail(impl.ErrType)
		}
		floats = floats || r.val.Kind == impl.KFlt
	}
	if o := impl.Compare(regs[2].val, vInt(0)); o == 0 || o == 2 {
		m.fail(impl.ErrStep)
	}
	for j := range regs {
		if v := regs[j].val; floats && v.Kind == impl.KInt {
			regs[j].val = vFlt(float64(v.Num))
		}
	}
}

// complete: what the instruction waited for has come.
func (m *plainMachine) complete(f *plainFrame) {
	vals := m.take()
	i := m.code.Protos[f.proto].Ins[f.at]
	first := append(slices.Clone(vals), impl.Value{})[0]
	switch i.Op {
	case impl.IIndex, impl.IUnary, impl.IBinary:
		f.put(i.A, first)
	case impl.ICall:
		f.putList(i.A, vals)
	case impl.IEach:
		m.eachOver(f, i.A, first)
	case impl.IEachNext:
		if first.Kind == impl.KNil {
			f.at = i.B
			return
		}
		f.putList(i.C, vals)
	}
	f.at++
}

func (m *plainMachine) each(f *plainFrame, a int) {
	v := f.regs[a].val
	h := m.handler(v, "each")
	switch {
	case v.Kind == impl.KTable && h.Kind == impl.KNil:
		f.put(a+1, vInt(0))
		f.at++
	case v.Kind == impl.KTable:
		f.regs[a] = plainReg{}
		m.push(&plainFrame{kind: "first"})
		m.call(h, []impl.Value{v})
	default:
		m.eachOver(f, a, v)
		f.at++
	}
}

func (m *plainMachine) eachOver(f *plainFrame, a int, v impl.Value) {
	f.put(a, v)
	if v.Kind != impl.KFn && v.Kind != impl.KBuiltin {
		m.fail(impl.ErrType)
	}
	f.put(a+1, impl.Value{})
}

func (m *plainMachine) eachNext(f *plainFrame, i impl.Ins) {
	v, p := f.regs[i.A].val, f.regs[i.A+1].val
	if p.Kind != impl.KInt {
		m.tick()
		m.call(v, nil)
		return
	}
	if v.Kind != impl.KTable {
		m.fail(impl.ErrIndex)
	}
	found := impl.After(m.tables[v.Ref].table, int(p.Num))
	if !found.Found {
		f.at = i.B
		return
	}
	m.tick()
	f.put(i.A+1, vInt(int64(found.Pair.Turn)))
	f.putList(i.C, []impl.Value{found.Pair.Key, found.Pair.Val})
	f.at++
}

func (m *plainMachine) depth() int {
	n := 0
	for t := m.cur; t >= 0; t = m.tasks[t].waiter {
		for _, f := range m.tasks[t].frames {
			if f.kind == "code" {
				n++
			}
		}
	}
	return n
}

func (m *plainMachine) open(proto int, self impl.Value, args []impl.Value) {
	p := m.code.Protos[proto]
	f := &plainFrame{kind: "code", proto: proto, self: self, limit: -1, regs: make([]plainReg, p.Regs)}
	for r, v := range append(slices.Clone(args), make([]impl.Value, p.Params)...)[:p.Params] {
		f.put(r, v)
	}
	if p.Rest {
		f.putList(p.Params, args[min(p.Params, len(args)):])
	}
	m.push(f)
}

func (m *plainMachine) call(what impl.Value, args []impl.Value) {
	m.chain(what, args, 0)
}

func (m *plainMachine) chain(what impl.Value, args []impl.Value, links int) {
	m.tick()
	if what.Kind == impl.KBuiltin {
		m.builtin(what.Num, args)
		return
	}
	if what.Kind == impl.KFn {
		if m.depth() >= m.in.Depth {
			m.fail(impl.ErrDepth)
		}
		p := m.fns[what.Ref].proto
		m.open(p, what, args)
		m.record(impl.RecCall, -1, m.code.Protos[p].Line, m.code.Protos[p].Name)
		return
	}
	h := m.handler(what, "call")
	if h.Kind == impl.KNil {
		m.fail(impl.ErrCall)
	}
	if links == impl.MaxChain {
		m.fail(impl.ErrLoop)
	}
	m.chain(h, append([]impl.Value{what}, args...), links+1)
}

// handled: a handler is called, with what becomes of its values.
func (m *plainMachine) handled(then string, h impl.Value, args ...impl.Value) {
	m.push(&plainFrame{kind: then})
	m.call(h, args)
}

func (m *plainMachine) either(a, b impl.Value, name string) impl.Value {
	if h := m.handler(a, name); h.Kind != impl.KNil {
		return h
	}
	return m.handler(b, name)
}

var plainHandlers = map[int]string{1: "add", 2: "sub", 3: "mul", 4: "div", 5: "idiv", 6: "mod", 7: "and", 8: "or", 9: "xor", 10: "shl", 11: "shr", 12: "join",
	15: "lt", 16: "le", 19: "neg", 20: "flip", 22: "len"}

func (m *plainMachine) binary(op int, a, b impl.Value) {
	if op == impl.OpGt || op == impl.OpGe {
		op, a, b = op-2, b, a
	}
	if op == impl.OpJoin {
		m.tick()
	}
	then := "first"
	name := plainHandlers[op]
	got := impl.Binary(op, a, b)
	asks := got.Code == impl.ErrType
	switch op {
	case impl.OpEq, impl.OpNe:
		name, then = "eq", "truth"
		if op == impl.OpNe {
			then = "not"
		}
		asks = a.Kind == impl.KTable && b.Kind == impl.KTable && a.Ref != b.Ref
	case impl.OpLt, impl.OpLe:
		then = "truth"
	}
	if h := m.either(a, b, name); asks && h.Kind != impl.KNil {
		m.handled(then, h, a, b)
		return
	}
	if got.Code != 0 {
		m.fail(got.Code)
	}
	m.give(got.Value)
}

func (m *plainMachine) unary(op int, v impl.Value) {
	got := impl.Unary(op, v)
	h := m.handler(v, plainHandlers[op])
	switch {
	case op != impl.OpNot && got.Code == impl.ErrType && h.Kind != impl.KNil:
		m.handled("first", h, v)
	case op == impl.OpLen && v.Kind == impl.KTable:
		m.give(vInt(int64(impl.Length(m.tables[v.Ref].table))))
	case got.Code != 0:
		m.fail(got.Code)
	default:
		m.give(got.Value)
	}
}

func (m *plainMachine) index(v, k impl.Value) {
	if v.Kind != impl.KTable {
		m.fail(impl.ErrIndex)
	}
	for steps := 0; ; steps++ {
		got := m.get(v, k)
		h := m.handler(v, "index")
		switch {
		case got.Kind != impl.KNil || h.Kind == impl.KNil:
			m.give(got)
			return
		case h.Kind != impl.KTable:
			m.handled("first", h, v, k)
			return
		case steps == impl.MaxChain:
			m.fail(impl.ErrLoop)
		}
		v = h
	}
}

func (m *plainMachine) set(v, k, val impl.Value) {
	if v.Kind != impl.KTable {
		m.fail(impl.ErrIndex)
	}
	if impl.Key(k).Code != 0 {
		m.fail(impl.ErrKey)
	}
	for steps := 0; ; steps++ {
		h := m.handler(v, "setindex")
		switch {
		case m.get(v, k).Kind != impl.KNil || h.Kind == impl.KNil:
			m.raw(v, k, val)
			m.give()
			return
		case h.Kind != impl.KTable:
			m.handled("drop", h, v, k, val)
			return
		case steps == impl.MaxChain:
			m.fail(impl.ErrLoop)
		}
		v = h
	}
}

func (m *plainMachine) needs(holds bool, code int) {
	if !holds {
		m.fail(code)
	}
}

func (m *plainMachine) builtin(number int64, args []impl.Value) {
	a := append(slices.Clone(args), make([]impl.Value, 3)...)
	table := a[0].Kind == impl.KTable
	switch number {
	case impl.BPrint:
		var texts []string
		for _, v := range args {
			texts = append(texts, impl.Text(v))
		}
		text := strings.Join(texts, " ")
		m.needs(len(text) <= impl.MaxStr, impl.ErrLong)
		m.record(impl.RecPrint, -1, m.line(), text)
		m.give()
	case impl.BRead:
		if m.read == len(m.in.Lines) {
			m.give(impl.Value{})
			return
		}
		m.read++
		m.give(vStr(m.in.Lines[m.read-1]))
	case impl.BType:
		m.give(vStr([]string{"nil", "bool", "int", "float", "str", "table", "fn", "task", "fn"}[a[0].Kind]))
	case impl.BText:
		m.give(vStr(impl.Text(a[0])))
	case impl.BSetKind:
		m.needs(table && (a[1].Kind == impl.KTable || a[1].Kind == impl.KNil), impl.ErrArgs)
		t := m.tables[a[0].Ref]
		t.kind = a[1]
		t.wants = m.handler(a[0], "last").Kind == impl.KFn
		m.give(a[0])
	case impl.BKind:
		if table {
			m.give(m.tables[a[0].Ref].kind)
			return
		}
		m.give(impl.Value{})
	case impl.BRawGet:
		m.needs(table, impl.ErrArgs)
		m.give(m.get(a[0], a[1]))
	case impl.BRawSet:
		m.needs(table, impl.ErrArgs)
		m.raw(a[0], a[1], a[2])
		m.give()
	case impl.BCollect:
		m.push(&plainFrame{kind: "collect"})
	case impl.BCells:
		m.give(vInt(int64(m.cells(m.reached()))))
	default:
		m.taskBuiltin(number, a, args)
	}
}

func (m *plainMachine) taskBuiltin(number int64, a, args []impl.Value) {
	if number == impl.BTask {
		m.needs(a[0].Kind == impl.KFn, impl.ErrArgs)
		m.needs(len(m.tasks) <= impl.MaxTasks, impl.ErrTask)
		m.pay(1)
		m.tasks = append(m.tasks, &plainTask{state: "new", fn: a[0], waiter: -1})
		m.give(vRef(impl.KTask, len(m.tasks)-1))
		return
	}
	if number == impl.BYield {
		t := m.task()
		speaks := slices.ContainsFunc(t.frames, func(f *plainFrame) bool { return f.kind == "collect" })
		m.needs(m.cur != 0 && !t.giving && !speaks, impl.ErrTask)
		t.state = "waiting"
		m.handBack(t, "yield")
		m.give(append([]impl.Value{vBool(true)}, args...)...)
		return
	}
	m.needs(a[0].Kind == impl.KTask, impl.ErrArgs)
	t := m.tasks[a[0].Ref]
	if number == impl.BStatus {
		m.give(vStr(t.state))
		return
	}
	isNew := t.state == "new"
	m.needs(isNew || t.state == "waiting", impl.ErrTask)
	if number == impl.BGiveUp && isNew {
		t.state, t.fn = "done", impl.Value{}
		m.give(vBool(true))
		return
	}
	m.task().state = "busy"
	t.state, t.waiter = "running", m.cur
	m.cur = a[0].Ref
	if number == impl.BGiveUp {
		t.giving = true
		m.record(impl.RecTurn, 0, 0, "giveup")
		m.way = plainWay{kind: "gone"}
		return
	}
	m.record(impl.RecTurn, 0, 0, "resume")
	if isNew {
		fn := t.fn
		t.fn = impl.Value{}
		m.call(fn, args[1:])
		return
	}
	m.give(args[1:]...)
}

// plainSeen: what is reached, by Kind and number.
type plainSeen map[[2]int]bool

func (s plainSeen) misses(v impl.Value) bool {
	return v.Kind >= impl.KTable && v.Kind <= impl.KTask && !s[[2]int{v.Kind, v.Ref}]
}

func (m *plainMachine) weak(table int) (keys, vals bool) {
	w := m.handler(vRef(impl.KTable, table), "weak")
	return w.Kind == impl.KStr && strings.Contains(w.Str, "k"), w.Kind == impl.KStr && strings.Contains(w.Str, "v")
}

// reached: all that follows from what is there is gone through again and again, until nothing comes any more.
func (m *plainMachine) reached() plainSeen {
	seen := plainSeen{}
	reach := func(vals ...impl.Value) (came bool) {
		for _, v := range vals {
			if seen.misses(v) {
				seen[[2]int{v.Kind, v.Ref}] = true
				came = true
			}
		}
		return came
	}
	for t := m.cur; t >= 0; t = m.tasks[t].waiter {
		reach(vRef(impl.KTask, t))
	}
	for came := true; came; {
		came = false
		for n, t := range m.tasks {
			if seen[[2]int{impl.KTask, n}] && reach(m.heldBy(t)...) {
				came = true
			}
		}
		for n, t := range m.tables {
			if seen[[2]int{impl.KTable, n}] && reach(m.heldByTable(n, t, seen)...) {
				came = true
			}
		}
		for n, f := range m.fns {
			if !seen[[2]int{impl.KFn, n}] {
				continue
			}
			for _, up := range f.ups {
				came = reach(*up) || came
			}
		}
	}
	return seen
}

func (m *plainMachine) heldBy(t *plainTask) []impl.Value {
	vals := append([]impl.Value{t.fn}, t.dropped...)
	for _, f := range t.frames {
		vals = append(vals, f.self)
		vals = append(vals, f.vals...)
		vals = append(vals, f.way.vals...)
		for _, r := range f.regs {
			vals = append(append(vals, r.val), r.list...)
			if r.box != nil {
				vals = append(vals, *r.box)
			}
		}
		for _, g := range f.guards {
			for _, d := range g.defers {
				vals = append(append(vals, d.what), d.args...)
			}
		}
	}
	return vals
}

func (m *plainMachine) heldByTable(n int, t *plainTable, seen plainSeen) []impl.Value {
	keys, vals := m.weak(n)
	out := []impl.Value{t.kind}
	for _, p := range t.table.Pairs {
		if !keys {
			out = append(out, p.Key)
		}
		if !vals && !(keys && seen.misses(p.Key)) {
			out = append(out, p.Val)
		}
	}
	return out
}

func (m *plainMachine) cells(seen plainSeen) int {
	n := 0
	for thing := range seen {
		switch {
		case thing[0] == impl.KTable:
			n += 1 + len(m.tables[thing[1]].table.Pairs)
		case thing[0] == impl.KFn:
			n += 1 + len(m.fns[thing[1]].ups)
		case thing[1] > 0:
			n++
		}
	}
	return n
}

func (m *plainMachine) collects(f *plainFrame) {
	m.take()
	if !f.round {
		m.beginRound(f)
		if len(f.vals) == 0 {
			m.live, m.since = m.cells(m.reached()), 0
			m.pop()
			m.give(vInt(int64(m.live)))
			return
		}
		f.round, f.step = true, 0
	}
	if 2*f.step == len(f.vals) {
		f.round, f.step, f.vals = false, 0, nil
		return
	}
	f.step++
	m.record(impl.RecLast, 0, 0, "")
	m.call(f.vals[2*f.step-1], []impl.Value{f.vals[2*f.step-2]})
}

func (m *plainMachine) beginRound(f *plainFrame) {
	seen := m.reached()
	for n, t := range m.tables {
		keys, vals := m.weak(n)
		if !seen[[2]int{impl.KTable, n}] {
			continue
		}
		count := len(t.table.Pairs)
		for _, p := range t.table.Pairs {
			if keys && seen.misses(p.Key) || vals && seen.misses(p.Val) {
				t.table = impl.Put(t.table, p.Key, impl.Value{})
			}
		}
		if len(t.table.Pairs) != count {
			m.renewed(n)
		}
	}
	for n, t := range m.tables {
		if !t.wants || seen[[2]int{impl.KTable, n}] {
			continue
		}
		t.wants = false
		v := vRef(impl.KTable, n)
		if last := m.handler(v, "last"); last.Kind == impl.KFn {
			f.vals = append(f.vals, v, last)
		}
	}
}
