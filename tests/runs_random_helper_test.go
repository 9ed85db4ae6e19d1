package tests

import (
	"math/rand"
	"strconv"
	"strings"

	"loop.example/heddle/impl"
)

// scribe writes texts by chance that are full of what runs have to do. The first letter of a name tells what its variable is likely
// to hold: n a number, t a table, f a fn, k a task, x anything.
type scribe struct {
	r     *rand.Rand
	names [][]string // by scope
	count int
	loops int
	fns   int // around
	depth int
	left  int // how many statements may still come
}

func (s *scribe) pick(texts ...string) string { return texts[s.r.Intn(len(texts))] }

func (s *scribe) oneIn(n int) bool { return s.r.Intn(n) == 0 }

// variable: one of a sort that is in scope; mostly.
func (s *scribe) variable(sort string) string {
	var fit, all []string
	for _, scope := range s.names {
		for _, name := range scope {
			all = append(all, name)
			if strings.HasPrefix(name, sort) {
				fit = append(fit, name)
			}
		}
	}
	if len(fit) == 0 || s.oneIn(40) {
		fit = all
	}
	if len(fit) == 0 {
		return "nil"
	}
	return fit[s.r.Intn(len(fit))]
}

// target: a variable that may be written.
func (s *scribe) target(sort string) string {
	if name := s.variable(sort); name != "nil" {
		return name
	}
	return "x0"
}

func (s *scribe) fresh(sort string) string {
	s.count++
	if s.oneIn(12) {
		return sort + strconv.Itoa(s.r.Intn(4))
	}
	return sort + strconv.Itoa(s.count)
}

func (s *scribe) declare(name string) {
	last := len(s.names) - 1
	s.names[last] = append(s.names[last], name)
}

func (s *scribe) open() { s.names = append(s.names, nil) }

func (s *scribe) close() { s.names = s.names[:len(s.names)-1] }

func (s *scribe) number() string {
	switch s.r.Intn(9) {
	case 0:
		return s.pick("0", "1", "2", "-1", "3", "9223372036854775807", "0x8000000000000000")
	case 1:
		return s.pick("0.5", "1.0", "2.5", "0.0", "1e999", "-1e999", "(0.0 / 0.0)")
	case 2:
		return "#" + s.table()
	case 3, 4:
		s.depth++
		text := "(" + s.expr() + " " + s.pick("+", "-", "*", "/", "//", "%", "&", "|", "~", "<<", ">>") + " " + s.number() + ")"
		s.depth--
		return text
	case 5:
		return s.pick("- ", "~", "- - ") + s.number()
	}
	return s.variable("n")
}

func (s *scribe) table() string {
	switch s.r.Intn(6) {
	case 0, 1:
		return s.newTable()
	case 2:
		return s.kindTable()
	case 3:
		return "setkind(" + s.table() + ", " + s.table() + ")"
	}
	return s.variable("t")
}

func (s *scribe) newTable() string {
	var entries []string
	for range s.r.Intn(4) {
		switch s.r.Intn(5) {
		case 0:
			entries = append(entries, "["+s.expr()+"] = "+s.expr())
		case 1:
			entries = append(entries, "."+s.field()+" = "+s.expr())
		default:
			entries = append(entries, s.expr())
		}
	}
	if s.oneIn(4) {
		entries = append(entries, s.call())
	}
	return "{" + strings.Join(entries, ", ") + "}"
}

func (s *scribe) field() string {
	return s.pick("a", "b", "code", "weak", "last", "index", "setindex", "call", "eq", "add", "len", "each", "lt")
}

func (s *scribe) kindTable() string {
	var entries []string
	for range 1 + s.r.Intn(4) {
		switch s.r.Intn(8) {
		case 0, 1:
			entries = append(entries, ".weak = "+s.pick(`"k"`, `"v"`, `"kv"`, `"vk"`, `""`, `"x"`, "1"))
		case 2, 3:
			entries = append(entries, ".last = "+s.fn())
		case 4:
			entries = append(entries, "."+s.pick("index", "setindex")+" = "+s.pick(s.fn(), s.table(), s.builtin()))
		case 5:
			entries = append(entries, "."+s.pick("add", "sub", "mul", "div", "idiv", "mod", "and", "or", "xor", "shl", "shr", "join", "neg", "flip", "len")+" = "+s.called())
		default:
			name := s.pick("eq", "lt", "le", "call", "each", "eq", "call", "each")
			if strings.Contains("and or", name) {
				name = "eq"
			}
			entries = append(entries, "."+name+" = "+s.called())
		}
	}
	text := "{" + strings.Join(entries, ", ") + "}"
	// These two are words, and so no names of fields.
	return strings.NewReplacer(".and = ", `["and"] = `, ".or = ", `["or"] = `).Replace(text)
}

func (s *scribe) builtin() string {
	return s.pick("print", "read", "type", "text", "setkind", "kind", "rawget", "rawset", "task", "resume", "yield", "status", "giveup", "collect", "cells")
}

// called: something that can be called, mostly.
func (s *scribe) called() string {
	switch s.r.Intn(8) {
	case 0:
		return s.builtin()
	case 1:
		return s.table()
	case 2, 3:
		return s.fn()
	}
	return s.variable("f")
}

func (s *scribe) base() string {
	text := s.called()
	if text == "nil" || strings.HasPrefix(text, "fn") || strings.HasPrefix(text, "{") {
		return "(" + text + ")"
	}
	return text
}

func (s *scribe) call() string {
	if s.depth > 4 {
		return s.pick("cells()", "collect()", "read()")
	}
	s.depth++
	defer func() { s.depth-- }()
	switch s.r.Intn(12) {
	case 0, 1:
		return s.pick("collect()", "cells()", "collect()")
	case 2, 3:
		return "resume(" + s.variable("k") + ", " + s.exprs(2) + ")"
	case 4:
		return "giveup(" + s.variable("k") + ")"
	case 5, 6:
		if s.fns == 0 && !s.oneIn(20) {
			return s.variable("f") + "(" + s.exprs(2) + ")"
		}
		return "yield(" + s.exprs(2) + ")"
	case 7:
		return s.pick("status(", "kind(", "type(", "text(") + s.expr() + ")"
	case 8:
		return "print(" + s.exprs(2) + ")"
	}
	return s.base() + "(" + s.exprs(3) + ")"
}

func (s *scribe) exprs(most int) string {
	var texts []string
	for range 1 + s.r.Intn(most) {
		texts = append(texts, s.expr())
	}
	if s.oneIn(5) {
		texts = append(texts, s.pick("...", s.call(), s.call()))
	}
	return strings.Join(texts, ", ")
}

func (s *scribe) task() string {
	if s.oneIn(3) {
		return s.variable("k")
	}
	if s.fns < 2 && s.left > 2 && s.oneIn(2) {
		s.left -= 3
		return "task(fn" + s.taskBody() + ")"
	}
	return "task(" + s.pick(s.fn(), s.fn(), s.variable("f")) + ")"
}

func (s *scribe) fn() string {
	if s.fns > 2 || s.depth > 4 || s.left < 1 {
		return s.variable("f")
	}
	return "fn" + s.body(1+s.r.Intn(4))
}

func (s *scribe) body(count int) string {
	loops, depth := s.loops, s.depth
	s.loops, s.depth = 0, 0
	s.fns++
	s.open()
	var params []string
	for range s.r.Intn(3) {
		name := s.fresh(s.pick("x", "x", "x", "n", "t"))
		params = append(params, name)
		s.declare(name)
	}
	text := "(" + strings.Join(append(params, "..."), ", ") + ") " + s.block(count)
	s.close()
	s.fns--
	s.loops, s.depth = loops, depth
	return text
}

// taskBody: one that yields again and again, in all sorts of places, with much put off.
func (s *scribe) taskBody() string {
	loops, depth := s.loops, s.depth
	s.loops, s.depth = 0, 0
	s.fns++
	s.open()
	s.declare("x9")
	lines := []string{"defer " + s.call()}
	for range 2 + s.r.Intn(3) {
		yields := s.pick("yield(", "print(yield(cells(), ", "let x8 = yield(", "x9 = {}, yield(", "return yield(", "throw yield(", "defer yield(", "t0[yield(") + s.expr() + ")"
		switch {
		case strings.HasPrefix(yields, "print"):
			yields += ")"
		case strings.HasPrefix(yields, "t0"):
			yields += "] = " + s.expr()
		}
		later := "defer " + s.pick("yield(", "collect(", "print(", "(fn(...) {throw ...})(", s.variable("f")+"(", "(fn(...) {yield(...)\nprint(cells())})(") + s.expr() + ")"
		switch s.r.Intn(6) {
		case 0:
			lines = append(lines, later+"\n"+yields)
		case 1:
			lines = append(lines, "try {\n"+later+"\n"+yields+"\n} catch e, tr {\n"+s.statement()+"\n}")
		case 2:
			lines = append(lines, "for i, v in {1, {}, 3} {\n"+later+"\n"+yields+"\n"+s.pick("break", "next", s.statement())+"\n}")
		case 3:
			lines = append(lines, "{\n"+later+"\nlet t8 = {1, 2}\n"+later+"\n"+yields+"\n}")
		case 4:
			lines = append(lines, "(fn(...) {\n"+later+"\n"+yields+"\nreturn ...\n})("+s.exprs(2)+")")
		default:
			lines = append(lines, s.statement(), yields)
		}
	}
	s.close()
	s.fns--
	s.loops, s.depth = loops, depth
	return "(x9, ...) {\n" + strings.Join(lines, "\n") + "\n}"
}

func (s *scribe) expr() string {
	if s.depth > 3 {
		return s.pick("nil", "true", "1", `"s"`, s.variable("x"), s.variable("t"))
	}
	s.depth++
	defer func() { s.depth-- }()
	switch s.r.Intn(20) {
	case 0:
		return s.pick("nil", "true", "false", `"s"`, `"k"`, "7", `"code"`)
	case 1, 2:
		return s.number()
	case 3, 4, 5:
		return s.table()
	case 6:
		return s.fn()
	case 7:
		return s.task()
	case 8, 9, 10:
		return s.call()
	case 11:
		return "(" + s.call() + ")"
	case 12:
		return "(" + s.expr() + " " + s.pick("and", "or", "==", "~=", "<", "<=", ">", ">=", "..", "+", "==", "<") + " " + s.expr() + ")"
	case 13:
		return s.pick(s.variable("t"), "("+s.expr()+")", s.call()) + "[" + s.expr() + "]"
	case 14:
		return s.pick(s.variable("t"), "("+s.expr()+")", s.call()) + "." + s.field()
	case 15:
		return s.pick("not ", "#", "- ", "~") + s.pick(s.variable("t"), s.call(), "...")
	case 16:
		return s.pick("...", "(...)", s.builtin())
	}
	return s.variable(s.pick("n", "t", "x", "f", "k"))
}

func (s *scribe) block(count int) string {
	s.open()
	var lines []string
	for range count {
		lines = append(lines, s.statement())
	}
	s.close()
	return "{\n" + strings.Join(lines, "\n") + "\n}"
}

func (s *scribe) declared(sort string) string {
	values := map[string]func() string{"n": s.number, "t": s.table, "f": s.fn, "k": s.task, "x": s.expr}
	text := values[sort]()
	name := s.fresh(sort)
	s.declare(name)
	return "let " + name + " = " + text
}

// statement: many are tried, so that what stands behind them has its turn.
func (s *scribe) statement() string {
	text := s.bareStatement()
	if strings.HasPrefix(text, "let") || strings.HasPrefix(text, "fn") || strings.HasPrefix(text, "defer") || s.oneIn(2) {
		return text
	}
	return "try {\n" + text + "\n} catch e, tr {\nprint(tr)\n}"
}

func (s *scribe) bareStatement() string {
	s.left--
	if s.left < 0 {
		return "print(" + s.variable("x") + ")"
	}
	switch s.r.Intn(34) {
	case 30:
		return "setkind(" + s.newTable() + ", " + s.pick(s.kindTable(), "{.last = "+s.fn()+"}", s.variable("t")) + ")\n" + s.pick("collect()", "print(1)")
	case 31:
		return s.pick("print(giveup("+s.variable("k")+"))", "print(resume("+s.variable("k")+"))\nprint(giveup("+s.variable("k")+"))")
	case 32:
		return "print(resume(" + s.variable("k") + ", " + s.exprs(2) + "))"
	case 33:
		return s.target("t") + " = nil\ncollect()"
	case 0, 1, 2:
		return s.declared(s.pick("n", "t", "t", "f", "k", "x"))
	case 3:
		text := s.exprs(3)
		a, b := s.fresh(s.pick("n", "t", "x")), s.fresh(s.pick("f", "t", "x"))
		s.declare(a)
		s.declare(b)
		return "let " + a + ", " + b + " = " + text
	case 4, 5:
		return s.target(s.pick("n", "t", "x", "f", "k")) + " = " + s.pick(s.expr(), "nil")
	case 6, 7:
		return s.target("t") + s.pick("["+s.expr()+"]", "."+s.field()) + " = " + s.expr()
	case 8:
		return s.target("x") + ", " + s.target("t") + "." + s.field() + ", " + s.target("t") + "[" + s.expr() + "] = " + s.exprs(3)
	case 9, 10:
		return "print(" + s.exprs(3) + ")"
	case 11, 12:
		return "print(" + s.pick("collect()", "cells()", "collect(), cells()") + ")"
	case 13:
		return "setkind(" + s.target("t") + ", " + s.table() + ")"
	case 14, 15:
		return "defer " + s.call()
	case 16:
		return "throw " + s.expr()
	case 17:
		if s.fns == 0 && !s.oneIn(10) {
			return "collect()"
		}
		return "return " + s.exprs(2)
	case 18:
		if s.loops > 0 {
			return s.pick("break", "next")
		}
		return s.bareStatement()
	case 19:
		name := s.fresh("f")
		s.declare(name)
		return "fn " + name + s.body(1+s.r.Intn(4))
	case 20:
		return s.pick("print(resume("+s.variable("k")+", "+s.exprs(1)+"))", "print(giveup("+s.variable("k")+"))", "print(yield(cells()))")
	case 21, 22, 23:
		return s.try()
	case 24:
		return s.block(1 + s.r.Intn(3))
	case 25, 26:
		return s.loop()
	case 27:
		text := "if " + s.expr() + " " + s.block(1+s.r.Intn(2))
		if s.oneIn(2) {
			text += " elif " + s.expr() + " " + s.block(1)
		}
		if s.oneIn(2) {
			text += " else " + s.block(1+s.r.Intn(2))
		}
		return text
	}
	return s.call()
}

func (s *scribe) try() string {
	text := "try " + s.block(1+s.r.Intn(3)) + " catch "
	a, b := s.fresh("t"), s.fresh("x")
	s.open()
	s.declare(a)
	s.declare(b)
	text += a + ", " + b + " " + s.block(s.r.Intn(3))
	s.close()
	return text
}

func (s *scribe) loop() string {
	s.loops++
	defer func() { s.loops-- }()
	s.open()
	defer s.close()
	switch s.r.Intn(3) {
	case 0:
		cond := s.expr()
		if name := s.variable("n"); name != "nil" && s.oneIn(2) {
			return "while " + name + " < 4 {\n" + name + " = " + name + " + 1\n" + s.block(2) + "\n}"
		}
		return "while " + cond + " " + s.block(1+s.r.Intn(2))
	case 1:
		from, to := s.pick(s.number(), s.expr()), s.pick(s.number(), s.expr())
		step := s.pick("", "", ", "+s.number(), ", "+s.call(), ", "+s.expr())
		name := s.fresh("n")
		s.declare(name)
		return "for " + name + " = " + s.pick("1", from) + ", " + s.pick("3", to, to) + step + " " + s.block(1+s.r.Intn(3))
	}
	over := s.pick(s.table(), s.table(), s.called(), s.expr())
	a, b := s.fresh("x"), s.fresh("t")
	s.declare(a)
	s.declare(b)
	return "for " + a + ", " + b + " in " + over + " " + s.block(1+s.r.Intn(3))
}

// randomText: a text with some of everything declared, whose statements are mostly tried one by one, so that it comes far.
func randomText(seed int64) string {
	s := &scribe{r: rand.New(rand.NewSource(seed))}
	s.open()
	lines := []string{"let x0, n0 = nil, 0"}
	s.declare("x0")
	s.declare("n0")
	for i, sort := range []string{"t", "f", "t", "k", "f", "k", "t", "k"} {
		s.left = 8
		name := sort + strconv.Itoa(i)
		text := ""
		switch sort {
		case "t":
			text = s.pick(s.newTable(), s.kindTable())
		case "f":
			text = "fn" + s.body(2)
		case "k":
			text = "task(fn" + s.taskBody() + ")"
		}
		lines = append(lines, "let "+name, "try {\n"+name+" = "+text+"\n} catch e, tr {\nprint(tr)\n}")
		s.declare(name)
	}
	for range 4 + s.r.Intn(8) {
		s.left = 10
		text := s.bareStatement()
		if s.oneIn(15) || strings.HasPrefix(text, "fn") || strings.HasPrefix(text, "defer") {
			lines = append(lines, text)
		} else if rest, ok := strings.CutPrefix(text, "let "); ok {
			names, _, _ := strings.Cut(rest, " =")
			lines = append(lines, "let "+names, "try {\n"+rest+"\n} catch e, tr {\nprint(tr)\n}")
		} else {
			lines = append(lines, "try {\n"+text+"\n} catch e, tr {\nprint(tr)\n}")
		}
	}
	return strings.Join(lines, "\n") + "\n"
}

func randomInput(seed int64) impl.Input {
	r := rand.New(rand.NewSource(seed))
	in := impl.Input{Ticks: 20 + r.Intn(700), Depth: 1 + r.Intn(12), Cells: 10 + r.Intn(150)}
	if seed%3 > 0 {
		in = impl.Input{Ticks: 300 + r.Intn(1000), Depth: 5 + r.Intn(25), Cells: 200 + r.Intn(1000)}
	}
	for range r.Intn(4) {
		in.Args = append(in.Args, []string{"", "a", "long argument"}[r.Intn(3)])
		in.Lines = append(in.Lines, []string{"", "k", "a line"}[r.Intn(3)])
	}
	return in
}

// renumbered: the same unit with the variables of each fn, but for its parameters, under other numbers.
func renumbered(r *rand.Rand, u impl.Unit) impl.Unit {
	out := copiedUnit(u)
	for f, fn := range u.Fns {
		to := countTo(len(fn.Vars))
		others := to[fn.Params:]
		r.Shuffle(len(others), func(i, j int) { others[i], others[j] = others[j], others[i] })
		for v, name := range fn.Vars {
			out.Fns[f].Vars[to[v]] = name
		}
		for n, node := range fn.Nodes {
			switch node.Kind {
			case impl.NLet, impl.NFor, impl.NEach, impl.NTry, impl.NVar:
				for i, v := range node.Refs {
					out.Fns[f].Nodes[n].Refs[i] = to[v]
				}
			case impl.NFn:
				for i, up := range u.Fns[node.Refs[0]].Ups {
					if up.Local {
						out.Fns[node.Refs[0]].Ups[i].Index = to[up.Index]
					}
				}
			}
		}
	}
	return out
}
