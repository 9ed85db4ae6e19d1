package tests

import (
	"fmt"
	"slices"
	"strconv"
	"strings"
	"testing"

	"loop.example/heddle/impl"
)

// scribbler makes a code of a text. A line `proto NAME line=7 params=1 rest ups=r0,u1 regs=9` begins a proto (`_` has no name; without
// regs= it has as many registers as it uses); a line `var NAME REG FROM TO` is a Named; all others are instructions as insOf has them,
// with `~3` for a register that is taken, consts, builtins, operations and protos by what they are, and these words for several
// instructions, which use registers from R on:
//
//	do R WHAT ARGS     R becomes the list of what a call gives; WHAT and ARGS are consts, or registers r0, ~0
//	one R WHAT ARGS    R becomes the first of these
//	say R ARGS         prints
//	later R WHAT ARGS  the innermost guard keeps the call
//	give R ARGS        returns a list
type scribbler struct {
	names  []string
	proto  impl.Proto
	words  [][]string
	labels map[string]int
	vars   [][]string
}

var builtinNames = []string{"print", "read", "type", "text", "setkind", "kind", "rawget", "rawset", "task", "resume", "yield", "status", "giveup", "collect", "cells"}

var opWords = []string{"", "add", "sub", "mul", "div", "idiv", "mod", "and", "or", "xor", "shl", "shr", "join", "eq", "ne", "lt", "le", "gt", "ge", "neg", "flip", "not", "len"}

func stepsOf(text string) impl.Code {
	var heads [][]string
	var bodies [][]string
	if !strings.HasPrefix(strings.TrimSpace(text), "proto") {
		text = "proto main\n" + text
	}
	for _, line := range strings.Split(text, "\n") {
		line = strings.TrimSpace(line)
		switch words := strings.Fields(line); {
		case len(words) == 0:
		case words[0] == "proto":
			heads, bodies = append(heads, words[1:]), append(bodies, nil)
		default:
			bodies[len(bodies)-1] = append(bodies[len(bodies)-1], line)
		}
	}
	var names []string
	for _, head := range heads {
		names = append(names, head[0])
	}
	var c impl.Code
	for n, head := range heads {
		s := scribbler{names: names, labels: map[string]int{}}
		c.Protos = append(c.Protos, s.whole(head, bodies[n]))
	}
	return c
}

func (s *scribbler) whole(head, body []string) impl.Proto {
	if head[0] != "_" {
		s.proto.Name = head[0]
	}
	regs := -1
	for _, word := range head[1:] {
		name, value, _ := strings.Cut(word, "=")
		n, _ := strconv.Atoi(value)
		switch name {
		case "line":
			s.proto.Line = n
		case "params":
			s.proto.Params = n
		case "rest":
			s.proto.Rest = true
		case "regs":
			regs = n
		case "ups":
			for _, up := range strings.Split(value, ",") {
				index, _ := strconv.Atoi(up[1:])
				s.proto.Ups = append(s.proto.Ups, impl.Up{Local: up[0] == 'r', Index: index})
			}
		}
	}
	for _, line := range body {
		if words := strings.Fields(line); words[0] == "var" {
			s.vars = append(s.vars, words[1:])
			continue
		}
		for _, part := range strings.Split(line, ";") {
			s.take(strings.Fields(part))
		}
	}
	s.finish(regs)
	return s.proto
}

// take: one instruction as it is told, or one of the words for several.
func (s *scribbler) take(words []string) {
	for len(words) > 0 && strings.HasSuffix(words[0], ":") && len(words[0]) > 1 {
		s.labels["@"+strings.TrimSuffix(words[0], ":")] = len(s.words)
		words = words[1:]
	}
	if len(words) == 0 {
		return
	}
	r := 0
	if len(words) > 1 {
		r, _ = strconv.Atoi(words[1])
	}
	reg := func(n int) string { return strconv.Itoa(n) }
	switch words[0] {
	case "do":
		s.called(r, words[2:])
		s.take([]string{"call", reg(r), "~" + reg(r), "~" + reg(r+1)})
	case "one":
		s.take(append([]string{"do"}, words[1:]...))
		s.take([]string{"first", reg(r), "~" + reg(r)})
	case "say":
		s.take(append([]string{"do", reg(r), "print"}, words[2:]...))
		s.take([]string{"drop", reg(r)})
	case "later":
		s.called(r, words[2:])
		s.take([]string{"defer", "~" + reg(r), "~" + reg(r+1)})
	case "give":
		s.listed(r, words[2:])
		s.take([]string{"return", "~" + reg(r)})
	default:
		s.words = append(s.words, words)
	}
}

func (s *scribbler) called(r int, words []string) {
	s.loaded(r, words[0])
	s.listed(r+1, words[1:])
}

func (s *scribbler) listed(r int, args []string) {
	s.take([]string{"list", strconv.Itoa(r)})
	for _, arg := range args {
		if name, ok := operandWord(arg); ok {
			s.take([]string{"add", strconv.Itoa(r), name})
			continue
		}
		s.loaded(r+1, arg)
		s.take([]string{"add", strconv.Itoa(r), "~" + strconv.Itoa(r+1)})
	}
}

// loaded: a const, or what a register holds, in register r.
func (s *scribbler) loaded(r int, word string) {
	if name, ok := operandWord(word); ok {
		s.take([]string{"move", strconv.Itoa(r), name})
		return
	}
	s.take([]string{"const", strconv.Itoa(r), word})
}

// operandWord: r3 and ~3 as they stand in an instruction.
func operandWord(word string) (string, bool) {
	if word[0] == '~' {
		return word, true
	}
	if _, err := strconv.Atoi(word[1:]); word[0] == 'r' && err == nil {
		return word[1:], true
	}
	return "", false
}

func (s *scribbler) finish(regs int) {
	for _, words := range s.words {
		s.proto.Ins = append(s.proto.Ins, s.ins(words))
	}
	for _, v := range s.vars {
		from, to := 0, len(s.proto.Ins)
		if len(v) > 2 {
			from, to = s.number("", v[2]), s.number("", v[3])
		}
		s.proto.Named = append(s.proto.Named, impl.Named{Name: v[0], Reg: s.number("", v[1]), From: from, To: to})
	}
	s.proto.Regs = s.used()
	if regs >= 0 {
		s.proto.Regs = regs
	}
}

func (s *scribbler) ins(words []string) impl.Ins {
	op := slices.IndexFunc(codeOps, func(o struct{ name, fields string }) bool { return o.name == words[0] }) + 1
	if op == 0 {
		panic(strings.Join(words, " "))
	}
	ins := impl.Ins{Op: op}
	for i, word := range words[1:] {
		ins = withField(ins, i, s.number(fieldSorts(op)[i], word))
	}
	return ins
}

func (s *scribbler) number(sort, word string) int {
	if at, ok := s.labels[word]; ok {
		return at
	}
	switch sort {
	case "const":
		return s.constant(constOf(word))
	case "proto":
		if n := slices.Index(s.names, word); n >= 0 {
			return n
		}
	case "unary", "binary":
		if n := slices.Index(opWords, word); n >= 0 {
			return n
		}
	}
	if word[0] == '~' {
		n, _ := strconv.Atoi(word[1:])
		return -1 - n
	}
	n, err := strconv.Atoi(word)
	if err != nil {
		panic(sort + " " + word)
	}
	return n
}

func (s *scribbler) constant(v impl.Value) int {
	if i := slices.IndexFunc(s.proto.Consts, func(w impl.Value) bool { return sameValue(v, w) }); i >= 0 {
		return i
	}
	s.proto.Consts = append(s.proto.Consts, v)
	return len(s.proto.Consts) - 1
}

func constOf(word string) impl.Value {
	switch {
	case word == "nil":
		return impl.Value{}
	case word == "true" || word == "false":
		return vBool(word == "true")
	case word[0] == '"':
		text, err := strconv.Unquote(word)
		if err != nil {
			panic(word)
		}
		return vStr(text)
	}
	if n := slices.Index(builtinNames, word); n >= 0 {
		return vBuiltin(int64(n))
	}
	if n, err := strconv.ParseInt(word, 0, 64); err == nil {
		return vInt(n)
	}
	f, err := strconv.ParseFloat(word, 64)
	if err != nil {
		panic(word)
	}
	return vFlt(f)
}

// used: as many registers as the proto needs.
func (s *scribbler) used() int {
	count := s.proto.Params
	if s.proto.Rest {
		count++
	}
	for _, n := range s.proto.Named {
		count = max(count, n.Reg+1)
	}
	for _, ins := range s.proto.Ins {
		for i, sort := range fieldSorts(ins.Op) {
			x := codeFields(ins)[i]
			switch {
			case sort == "keep":
				count = max(count, x)
			case sort == "trykeep":
				count = max(count, x+2)
			case sort == "v" || sort == "l":
				count = max(count, x+1, -x)
			case sort != "" && (sort[0] == '=' || sort[0] == '>'):
				count = max(count, x+len(sort)-1)
			}
		}
	}
	return count
}

// checkStepsPlain: RunCode and LookCode answer what the plain machine does, at every record and beside them; so does RunLoom.
func checkStepsPlain(t *testing.T, told string, c impl.Code, in impl.Input, looks bool) bool {
	t.Helper()
	m := plainMachineOf(c, in)
	m.looks = looks
	m.run()
	want, got := m.rep, impl.RunCode(c, in)
	for k := range min(len(want.Recs), len(got.Recs)) {
		if got.Recs[k] != want.Recs[k] {
			t.Errorf("%s\n%+v: record %d: %+v, want %+v\n%s", told, in, k, got.Recs[k], want.Recs[k], codeTold(c))
			return false
		}
	}
	if !sameReport(got, want) {
		t.Errorf("%s\n%+v: %d records, %+v, want %d, %+v\n%s", told, in, len(got.Recs), withoutRecs(got), len(want.Recs), withoutRecs(want), codeTold(c))
		return false
	}
	for _, pace := range []int{0, 1} {
		if got := impl.RunLoom(c, in, pace); !sameReport(got, want) {
			t.Errorf("%s\n%+v at pace %d: %s, want %s\n%s", told, in, pace, reportTold(got), reportTold(want), codeTold(c))
			return false
		}
	}
	for k, view := range m.views {
		if got := impl.LookCode(c, in, k); !sameView(got, view) {
			t.Errorf("%s\n%+v: at record %d %+v: %+v, want %+v\n%s", told, in, k, want.Recs[k], got, view, codeTold(c))
			return false
		}
	}
	return true
}

// ranCode: the report of a verified code, which is what the plain machine answers too, and the machine with its slots at every pace;
// what was given is as before.
func ranCode(t *testing.T, told string, c impl.Code, in impl.Input) impl.Report {
	t.Helper()
	before := codeTold(c)
	args, lines := slices.Clone(in.Args), slices.Clone(in.Lines)
	if fault := impl.CheckCode(c); fault != (impl.CodeFault{}) {
		t.Fatalf("%s: %v\n%s", told, fault, before)
	}
	r := impl.RunCode(c, in)
	checkStepsPlain(t, told, c, in, len(r.Recs) < 300)
	checkLoomSame(t, told, c, in, r)
	if codeTold(c) != before || !slices.Equal(in.Args, args) || !slices.Equal(in.Lines, lines) {
		t.Errorf("%s: what was given has changed", told)
	}
	return r
}

// stepsTold: all records, and how the run ended.
func stepsTold(r impl.Report) []string {
	var told []string
	for _, rec := range r.Recs {
		told = append(told, recTold(rec))
	}
	switch r.Code {
	case 0:
		told = append(told, strings.TrimSpace("gives "+strings.Join(r.Vals, " ")))
	case 1:
		told = append(told, r.Error+" at "+r.Trace)
	default:
		told = append(told, fmt.Sprint("code ", r.Code))
	}
	return told
}

// checkSteps: the records of a code with plenty of everything, and how it ends.
func checkSteps(t *testing.T, text string, want ...string) {
	t.Helper()
	checkShown(t, text, stepsTold(ranCode(t, text, stepsOf(text), plenty())), want)
}

// checkGives: what a code prints and gives.
func checkGives(t *testing.T, text string, want ...string) {
	t.Helper()
	checkShown(t, text, saysOf(ranCode(t, text, stepsOf(text), plenty())), want)
}

// checkStepsLook: what stands at each record, told behind the record.
func checkStepsLook(t *testing.T, text string, want ...string) {
	t.Helper()
	c := stepsOf(text)
	r := ranCode(t, text, c, plenty())
	var got []string
	for k, rec := range r.Recs {
		got = append(got, recTold(rec)+" / "+viewTold(impl.LookCode(c, plenty(), k)))
	}
	if !slices.Equal(got, want) {
		t.Errorf("%s\n%s\nwant\n%s", text, strings.Join(got, "\n"), strings.Join(want, "\n"))
	}
	for _, k := range []int{-1, -99, len(r.Recs), len(r.Recs) + 1, 1 << 60} {
		if v := impl.LookCode(c, plenty(), k); !sameView(v, impl.View{}) {
			t.Errorf("%s at %d: %s", text, k, viewTold(v))
		}
	}
}
