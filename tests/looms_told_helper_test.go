package tests

import (
	"fmt"
	"strconv"
	"strings"

	"loop.example/heddle/impl"
)

// machineTold: all of a machine in a text. What is zero is left out, but for the numbers in the first line, and slots and registers.
func machineTold(m impl.Machine) string {
	if machineIsZero(m) {
		return "zero"
	}
	var b strings.Builder
	fmt.Fprintf(&b, "pace %d due %d births %d vers %d moves %d", m.Pace, m.Due, m.Births, m.Vers, m.Moves)
	tellNumbers(&b, " read", m.Read, " hits", m.Hits, " misses", m.Misses, " cur", m.Cur, " live", m.Live, " since", m.Since)
	tellFlags(&b, " over", m.Over)
	if m.Has || len(m.Got) > 0 {
		tellFlags(&b, "\ngiven", m.Has, "\nnot given", !m.Has)
		b.WriteString(loomValues(m.Got))
	}
	b.WriteString(wayTold("\nway ", m.Way))
	for n, s := range m.Slots {
		fmt.Fprintf(&b, "\n%d: %s", n, slotTold(s))
	}
	for n, c := range m.Caches {
		fmt.Fprintf(&b, "\ncache %d: %d %d", n, c.Ver, c.Place)
	}
	for n, t := range m.Tasks {
		fmt.Fprintf(&b, "\ntask %d %s", n, taskTold(t))
	}
	b.WriteString("\nrep " + reportTold(m.Rep))
	return b.String()
}

func machineIsZero(m impl.Machine) bool {
	lists := len(m.Slots) + len(m.Caches) + len(m.Tasks) + len(m.Got) + len(m.Way.Vals) + len(m.Rep.Recs) + len(m.Rep.Vals)
	rest := fmt.Sprint(m.Pace, m.Due, m.Read, m.Births, m.Vers, m.Hits, m.Misses, m.Cur, m.Has, m.Way.Kind, m.Over, m.Live, m.Since, m.Moves, m.Rep.Code, m.Rep.Ticks, m.Rep.Made)
	return lists == 0 && rest == fmt.Sprint(0, 0, 0, 0, 0, 0, 0, 0, false, 0, false, 0, 0, 0, 0, 0, 0) && m.Way.Trace+m.Rep.Error+m.Rep.Trace == ""
}

func tellNumbers(b *strings.Builder, named ...any) {
	for i := 0; i < len(named); i += 2 {
		if named[i+1].(int) != 0 {
			fmt.Fprint(b, named[i], " ", named[i+1])
		}
	}
}

func tellFlags(b *strings.Builder, named ...any) {
	for i := 0; i < len(named); i += 2 {
		if named[i+1].(bool) {
			fmt.Fprint(b, named[i])
		}
	}
}

func loomValue(v impl.Value) string {
	if !impl.ValueOk(v) {
		return fmt.Sprintf("wrong %+v", v)
	}
	switch v.Kind {
	case impl.KStr:
		return strconv.Quote(v.Str)
	case impl.KTable, impl.KFn, impl.KTask:
		return fmt.Sprint(string("tfk"[v.Kind-impl.KTable]), v.Ref)
	case impl.KBuiltin:
		return builtinNames[v.Num]
	}
	return impl.Text(v)
}

func loomValues(vals []impl.Value) string {
	var b strings.Builder
	for _, v := range vals {
		b.WriteString(" " + loomValue(v))
	}
	return b.String()
}

func wayTold(head string, w impl.Way) string {
	if w.Kind == 0 && len(w.Vals) == 0 && w.Trace == "" {
		return ""
	}
	told := head + []string{"none", "return", "error", "gone"}[w.Kind] + loomValues(w.Vals)
	if w.Trace != "" {
		told += " at " + w.Trace
	}
	return told
}

func slotTold(s impl.Slot) string {
	var b strings.Builder
	b.WriteString([]string{"free", "table", "fn", "box"}[s.Kind])
	tellNumbers(&b, " born", s.Born, " ver", s.Ver)
	if s.Kind == impl.SlotTable || s.Of != 0 {
		fmt.Fprint(&b, " of ", s.Of)
	}
	tellNumbers(&b, " proto", s.Proto, " turns", s.Table.Turns)
	tellFlags(&b, " wants", s.Wants)
	for _, up := range s.Ups {
		fmt.Fprint(&b, " up ", up)
	}
	for _, p := range s.Table.Pairs {
		fmt.Fprintf(&b, " %d:%s=%s", p.Turn, loomValue(p.Key), loomValue(p.Val))
	}
	if v := s.Value; v.Kind != 0 || s.Kind == impl.SlotBox || !impl.ValueOk(v) {
		b.WriteString(" " + loomValue(v))
	}
	return b.String()
}

func taskTold(t impl.Task) string {
	var b strings.Builder
	b.WriteString([]string{"new", "waiting", "running", "busy", "done", "lost"}[t.State])
	if t.Fn.Kind != 0 {
		b.WriteString(" of " + loomValue(t.Fn))
	}
	if t.Waiter != -1 {
		fmt.Fprint(&b, " waiter ", t.Waiter)
	}
	tellFlags(&b, " giving", t.Giving)
	if len(t.Dropped) > 0 {
		b.WriteString(" dropped" + loomValues(t.Dropped))
	}
	for _, f := range t.Frames {
		b.WriteString("\n  " + frameTold(f))
	}
	return b.String()
}

func frameTold(f impl.Frame) string {
	var b strings.Builder
	b.WriteString([]string{"none", "code", "after", "collect"}[f.Kind])
	tellNumbers(&b, " then", f.Then, " step", f.Step, " proto", f.Proto)
	none := 0 // what has no meaning in a frame that is no open call
	if f.Kind == impl.FCode {
		none = -1
		fmt.Fprintf(&b, " at %d", f.At)
	} else {
		tellNumbers(&b, " at", f.At)
	}
	if f.Self != none {
		fmt.Fprint(&b, " self ", f.Self)
	}
	tellNumbers(&b, " line", f.Line, " saved", f.Saved)
	if f.Limit != none {
		fmt.Fprint(&b, " limit ", f.Limit)
	}
	tellFlags(&b, " round", f.Round, " leaving", f.Leaving, " one", f.One)
	if len(f.Vals) > 0 {
		b.WriteString(" vals" + loomValues(f.Vals))
	}
	b.WriteString(wayTold(" way ", f.Way))
	if len(f.Regs) > 0 {
		b.WriteString("\n    " + regsTold(f.Regs))
	}
	for _, g := range f.Fences {
		b.WriteString("\n    " + fenceTold(g))
	}
	return b.String()
}

func regsTold(regs []impl.Reg) string {
	var told []string
	for _, r := range regs {
		told = append(told, regTold(r))
	}
	return strings.Join(told, ", ")
}

func regTold(r impl.Reg) string {
	var b strings.Builder
	b.WriteString([]string{"nothing", "value", "box", "list"}[r.Type])
	if r.Type == impl.TBox || r.Box != 0 {
		fmt.Fprint(&b, " ", r.Box)
	}
	if v := r.Value; r.Type == impl.TValue || v.Kind != 0 || !impl.ValueOk(v) {
		b.WriteString(" " + loomValue(v))
	}
	b.WriteString(loomValues(r.List))
	return b.String()
}

func fenceTold(g impl.Fence) string {
	var b strings.Builder
	b.WriteString("scope")
	if g.Try {
		b.Reset()
		b.WriteString("try")
	}
	tellNumbers(&b, " keep", g.Keep, " handler", g.Handler, " line", g.Line)
	for _, d := range g.Defers {
		fmt.Fprintf(&b, " defer %d%s", d.Line, loomValues(d.Vals))
	}
	return b.String()
}

// courseOf: what stands behind each move, from none on: the running task (when it is not the text), a word for each of its frames, what
// is given and what is on its way. An open call is cN (at instruction N), while it is left cN! with how; cN- by an ILeave; aN is what
// becomes of a handler's values, kN a collect with N words told, KN while a round is.
func courseOf(c impl.Code, in impl.Input) []string {
	var course []string
	for n := range impl.Moves(c, in) + 1 {
		course = append(course, momentTold(impl.Stand(c, in, 0, n)))
	}
	return course
}

func momentTold(m impl.Machine) string {
	if m.Over {
		return fmt.Sprint("over ", m.Rep.Code)
	}
	var words []string
	if m.Cur > 0 {
		words = append(words, fmt.Sprint("task ", m.Cur, ":"))
	}
	for _, f := range m.Tasks[m.Cur].Frames {
		words = append(words, frameWord(f))
	}
	if m.Has {
		words = append(words, "given"+loomValues(m.Got))
	}
	if told := wayTold("way ", m.Way); told != "" {
		words = append(words, told)
	}
	return strings.Join(words, " ")
}

func frameWord(f impl.Frame) string {
	switch {
	case f.Kind == impl.FAfter:
		return fmt.Sprint("a", f.Then)
	case f.Kind == impl.FCollect && f.Round:
		return fmt.Sprint("K", f.Step)
	case f.Kind == impl.FCollect:
		return fmt.Sprint("k", f.Step)
	case f.Leaving && f.One:
		return fmt.Sprint("c", f.At, "-")
	case f.Leaving:
		return fmt.Sprint("c", f.At, "!", []string{"none", "return", "error", "gone"}[f.Way.Kind])
	}
	return fmt.Sprint("c", f.At)
}

// livesOf: for each slot behind each move a letter: t, f or b, great when it is alive; a dot for a free one.
func livesOf(c impl.Code, in impl.Input, pace int) []string {
	var lives []string
	for n := range impl.Moves(c, in) {
		alive := impl.Alive(c, in, pace, n)
		letters := ""
		for i, s := range impl.Stand(c, in, pace, n).Slots {
			letter := string(".tfb"[s.Kind])
			if alive[i] {
				letter = strings.ToUpper(letter)
			}
			letters += letter
		}
		if letters == "" {
			letters = "-"
		}
		lives = append(lives, letters)
	}
	return lives
}
