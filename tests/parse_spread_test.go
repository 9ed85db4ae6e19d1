package tests

import (
	"fmt"
	"math/rand"
	"slices"
	"strings"

	"loop.example/heddle/impl"
)

// formMaker grows sound sheets by chance, with all Kinds of kids that may stand in each place; left is how many forms it may
// still spend freely.
type formMaker struct {
	r     *rand.Rand
	forms []impl.Form
	left  int
}

func (m *formMaker) any(kinds ...int) int { return kinds[m.r.Intn(len(kinds))] }

func (m *formMaker) statement() int {
	if m.left < 0 {
		return m.any(impl.SBlock, impl.SBreak, impl.SNext, impl.SReturn, impl.SLet)
	}
	return 1 + m.r.Intn(16)
}

func (m *formMaker) expression() int {
	switch {
	case m.left < 0:
		return m.any(impl.ENil, impl.ETrue, impl.EFalse, impl.EInt, impl.EFlt, impl.EStr, impl.EName, impl.ERest, impl.ETable)
	case m.r.Intn(3) == 0:
		return m.any(impl.EAnd, impl.EOr, impl.EBinary, impl.EBinary, impl.EBinary, impl.EUnary)
	}
	return 20 + m.r.Intn(18)
}

func (m *formMaker) base() int {
	for {
		if kind := m.expression(); kind != impl.ERest {
			return kind
		}
	}
}

func (m *formMaker) list(most int, one func() int) []int {
	var kinds []int
	for range m.r.Intn(most + 1) {
		if m.left >= 0 {
			kinds = append(kinds, one())
		}
	}
	return kinds
}

func (m *formMaker) target() int { return m.any(impl.EName, impl.EIndex, impl.EField) }

// statKids: the Kinds of a statement's kids, and what its Num is then.
func (m *formMaker) statKids(kind int) ([]int, int64) {
	e := m.expression
	switch kind {
	case impl.SBlock:
		return m.list(3, m.statement), 0
	case impl.SLet, impl.SReturn:
		return m.list(3, e), 0
	case impl.SConst, impl.SThrow:
		return []int{e()}, 0
	case impl.SSet:
		targets := append(m.list(2, m.target), m.target())
		return slices.Concat(targets, m.list(2, e), []int{e()}), int64(len(targets))
	case impl.SIf:
		return append([]int{e(), impl.SBlock}, m.list(1, func() int { return m.any(impl.SBlock, impl.SIf) })...), 0
	case impl.SWhile, impl.SEach:
		return []int{e(), impl.SBlock}, 0
	case impl.SFor:
		return slices.Concat([]int{e(), e()}, m.list(1, e), []int{impl.SBlock}), 0
	}
	return leastKids(kind), 0
}

func (m *formMaker) exprKids(kind int) []int {
	switch kind {
	case impl.EAnd, impl.EOr, impl.EBinary, impl.NPair:
		return []int{m.expression(), m.expression()}
	case impl.EUnary, impl.NItem, impl.NNamed:
		return []int{m.expression()}
	case impl.EIndex:
		return []int{m.base(), m.expression()}
	case impl.EField:
		return []int{m.base()}
	case impl.ECall:
		return append([]int{m.base()}, m.list(3, m.expression)...)
	case impl.ETable:
		return m.list(3, func() int { return 40 + m.r.Intn(3) })
	case impl.EOne:
		return []int{m.any(impl.ECall, impl.ERest)}
	}
	return leastKids(kind)
}

// fill: fields of a form by chance, such as its row allows.
func (m *formMaker) fill(f *impl.Form) {
	row := sheetRows[f.Kind]
	f.Op = row.ops[0] + m.r.Intn(row.ops[1]-row.ops[0]+1)
	f.Names = nil
	for range row.names[0] + m.r.Intn(min(row.names[1]-row.names[0], 3)+1) {
		f.Names = append(f.Names, m.name())
	}
	switch row.text {
	case "name":
		f.Text = m.name()
	case "float":
		f.Text = []string{"0.5", "1e5", "1.50e-10", "9223372036854775808", "0e+0"}[m.r.Intn(5)]
	case "string":
		f.Text = []string{"", "q", "\n\t\"\\", "\x00\xff é", "--", "a; b"}[m.r.Intn(6)]
	}
	if f.Kind == impl.EInt {
		f.Num = []int64{0, 1, 10, -1, mostInt, leastInt}[m.r.Intn(6)]
	}
}

func (m *formMaker) name() string {
	return []string{"a", "b", "_", "e1", "x0", "andy", "iff", "Let", strings.Repeat("n", 40)}[m.r.Intn(9)]
}

func (m *formMaker) grow(kind int) int {
	m.left--
	f := impl.Form{Kind: kind}
	var kinds []int
	if kind < 20 {
		kinds, f.Num = m.statKids(kind)
	} else {
		kinds = m.exprKids(kind)
	}
	for _, kid := range kinds {
		f.Kids = append(f.Kids, m.grow(kid))
	}
	m.fill(&f)
	m.forms = append(m.forms, f)
	return len(m.forms) - 1
}

// grownSheets: so many sound sheets, without places.
func grownSheets(seed int64, count int) []impl.Sheet {
	r := rand.New(rand.NewSource(seed))
	var sheets []impl.Sheet
	for len(sheets) < count {
		m := formMaker{r: r, left: len(sheets) % 70}
		m.grow(impl.SBlock)
		if s := (impl.Sheet{Forms: m.forms}); impl.SheetOk(s) == (impl.SheetFault{}) {
			sheets = append(sheets, s)
		}
	}
	return sheets
}

// plainPowers: those of the infixes, as the document has them.
var plainPowers = map[string]int{
	"or": 1, "and": 2, "==": 3, "~=": 3, "<": 3, "<=": 3, ">": 3, ">=": 3, "..": 4, "|": 5, "~": 6, "&": 7, "<<": 8, ">>": 8,
	"+": 9, "-": 9, "*": 10, "/": 10, "//": 10, "%": 10,
}

// infixText: nothing for a form that no infix makes.
func infixText(f impl.Form) string {
	switch f.Kind {
	case impl.EAnd:
		return "and"
	case impl.EOr:
		return "or"
	case impl.EBinary:
		return fixedKinds[60+f.Op]
	}
	return ""
}

func prefixText(op int) string { return map[int]string{19: "-", 20: "~", 21: "not", 22: "#"}[op] }

// needsParens: whether an operand of an infix stands in parentheses.
func needsParens(infix string, operand impl.Form, right bool) bool {
	inner := infixText(operand)
	if inner == "" || plainPowers[inner] > plainPowers[infix] {
		return false
	}
	return plainPowers[inner] < plainPowers[infix] || right != (infix == "..")
}

// isSuffixed: whether a form stands ahead of a suffix without parentheses.
func isSuffixed(kind int) bool {
	return slices.Contains([]int{impl.EName, impl.EIndex, impl.EField, impl.ECall, impl.EOne}, kind)
}

// spreader writes a sheet as tokens, with parentheses and SEPs that nobody needs, and says which tokens each form is. A newline stands
// for a SEP.
type spreader struct {
	r           *rand.Rand
	forms       []impl.Form
	tokens      []string
	first, last []int
}

func (w *spreader) put(tokens ...string) { w.tokens = append(w.tokens, tokens...) }

func (w *spreader) seps(least int) {
	for range least + max(0, w.r.Intn(5)-2) {
		w.put("\n")
	}
}

func (w *spreader) stats(kids []int) {
	w.seps(0)
	for i, kid := range kids {
		if i > 0 {
			w.seps(1)
		}
		w.form(kid)
	}
	if len(kids) > 0 {
		w.seps(0)
	}
}

func (w *spreader) form(n int) { w.formFrom(n, len(w.tokens)) }

// formFrom: a form of which some tokens may have been written already.
func (w *spreader) formFrom(n, first int) {
	f := w.forms[n]
	switch {
	case f.Kind < 20:
		w.statement(f, first < len(w.tokens))
	case f.Kind < 40:
		w.expression(f)
	default:
		w.entry(f)
	}
	w.first[n], w.last[n] = first, len(w.tokens)-1
}

func (w *spreader) commas(count int, one func(i int)) {
	for i := range count {
		if i > 0 {
			w.put(",")
		}
		one(i)
	}
}

func (w *spreader) names(names []string) {
	w.commas(len(names), func(i int) { w.put(names[i]) })
}

func (w *spreader) exprs(kids []int) {
	w.commas(len(kids), func(i int) { w.operand(kids[i], false) })
}

// operand: an expression in parentheses, if it needs any, and in some that it does not.
func (w *spreader) operand(n int, needs bool) {
	count := max(0, w.r.Intn(8)-5)
	if kind := w.forms[n].Kind; kind == impl.ECall || kind == impl.ERest {
		count = 0
	}
	if needs {
		count++
	}
	w.put(slices.Repeat([]string{"("}, count)...)
	w.form(n)
	w.put(slices.Repeat([]string{")"}, count)...)
}

func (w *spreader) statement(f impl.Form, begun bool) {
	kids := f.Kids
	switch f.Kind {
	case impl.SBlock:
		w.put("{")
		w.stats(kids)
		w.put("}")
	case impl.SLet, impl.SConst:
		w.put(map[int]string{impl.SLet: "let", impl.SConst: "const"}[f.Kind])
		w.names(f.Names)
		if len(kids) > 0 {
			w.put("=")
			w.exprs(kids)
		}
	case impl.SFn:
		w.put("fn", f.Names[0])
		w.first[kids[0]] = len(w.tokens)
		w.body(w.forms[kids[0]])
		w.last[kids[0]] = len(w.tokens) - 1
	case impl.SSet:
		w.commas(int(f.Num), func(i int) { w.form(kids[i]) })
		w.put("=")
		w.exprs(kids[f.Num:])
	case impl.SDo:
		w.form(kids[0])
	case impl.SDefer:
		w.put("defer")
		w.form(kids[0])
	case impl.SIf:
		w.ifs(f, begun)
	case impl.STry:
		w.put("try")
		w.form(kids[0])
		w.put("catch")
		w.names(f.Names)
		w.form(kids[1])
	default:
		w.loopOrWord(f)
	}
}

func (w *spreader) ifs(f impl.Form, begun bool) {
	if !begun {
		w.put("if")
	}
	w.operand(f.Kids[0], false)
	w.form(f.Kids[1])
	if len(f.Kids) < 3 {
		return
	}
	if w.forms[f.Kids[2]].Kind == impl.SIf {
		w.put("elif")
		w.formFrom(f.Kids[2], len(w.tokens)-1)
		return
	}
	w.put("else")
	w.form(f.Kids[2])
}

func (w *spreader) loopOrWord(f impl.Form) {
	last := len(f.Kids)
	switch f.Kind {
	case impl.SWhile:
		w.put("while")
	case impl.SFor:
		w.put("for", f.Names[0], "=")
	case impl.SEach:
		w.put("for")
		w.names(f.Names)
		w.put("in")
	case impl.SBreak:
		w.put("break")
	case impl.SNext:
		w.put("next")
	case impl.SReturn:
		w.put("return")
	case impl.SThrow:
		w.put("throw")
	}
	if f.Kind == impl.SWhile || f.Kind == impl.SFor || f.Kind == impl.SEach {
		last--
	}
	w.exprs(f.Kids[:last])
	for _, block := range f.Kids[last:] {
		w.form(block)
	}
}

func (w *spreader) expression(f impl.Form) {
	switch f.Kind {
	case impl.EAnd, impl.EOr, impl.EBinary:
		infix := infixText(f)
		w.operand(f.Kids[0], needsParens(infix, w.forms[f.Kids[0]], false))
		w.put(infix)
		w.operand(f.Kids[1], needsParens(infix, w.forms[f.Kids[1]], true))
	case impl.EUnary:
		w.put(prefixText(f.Op))
		w.operand(f.Kids[0], infixText(w.forms[f.Kids[0]]) != "")
	case impl.EIndex, impl.EField, impl.ECall:
		w.operand(f.Kids[0], !isSuffixed(w.forms[f.Kids[0]].Kind))
		w.suffix(f)
	case impl.ETable:
		w.put("{")
		w.commas(len(f.Kids), func(i int) { w.form(f.Kids[i]) })
		if len(f.Kids) > 0 && w.r.Intn(2) == 0 {
			w.put(",")
		}
		w.put("}")
	case impl.EFn:
		w.put("fn")
		w.body(f)
	case impl.EOne:
		w.put("(")
		w.form(f.Kids[0])
		w.put(")")
	default:
		w.put(plainTokenText(f))
	}
}

// plainTokenText: what a form of one token is written as.
func plainTokenText(f impl.Form) string {
	switch f.Kind {
	case impl.EInt:
		if f.Num < 0 {
			return fmt.Sprintf("0x%x", uint64(f.Num))
		}
		return fmt.Sprint(f.Num)
	case impl.EStr:
		return impl.Quote(f.Text)
	case impl.EFlt, impl.EName:
		return f.Text
	}
	return map[int]string{impl.ENil: "nil", impl.ETrue: "true", impl.EFalse: "false", impl.ERest: "..."}[f.Kind]
}

func (w *spreader) suffix(f impl.Form) {
	switch f.Kind {
	case impl.EIndex:
		w.put("[")
		w.operand(f.Kids[1], false)
		w.put("]")
	case impl.EField:
		w.put(".", f.Text)
	case impl.ECall:
		w.put("(")
		w.exprs(f.Kids[1:])
		w.put(")")
	}
}

func (w *spreader) body(f impl.Form) {
	names := slices.Clone(f.Names)
	if f.Op == 1 {
		names = append(names, "...")
	}
	w.put("(")
	w.names(names)
	w.put(")")
	w.form(f.Kids[0])
}

func (w *spreader) entry(f impl.Form) {
	switch f.Kind {
	case impl.NPair:
		w.put("[")
		w.operand(f.Kids[0], false)
		w.put("]", "=")
	case impl.NNamed:
		w.put(".", f.Text, "=")
	}
	w.operand(f.Kids[len(f.Kids)-1], false)
}

// spreadOf: the tokens of a sheet.
func spreadOf(s impl.Sheet, r *rand.Rand) *spreader {
	w := &spreader{r: r, forms: s.Forms, first: make([]int, len(s.Forms)), last: make([]int, len(s.Forms))}
	w.stats(s.Forms[len(s.Forms)-1].Kids)
	return w
}

// touch: whether two tokens stay two without a blank between them.
func touch(a, b string) bool {
	row, ok := plainRow(a + b)
	return ok && len(row) == 2 && row[0].To == len(a)
}

// blank: what stands between two tokens; a newline only where it is no SEP.
func (w *spreader) blank(a, b string, lines bool) string {
	choices := []string{" ", " ", "\t", " \r ", "  "}
	if touch(a, b) {
		choices = append(choices, "", "", "")
	}
	if b == "\n" {
		choices = append(choices, "-- r", "--\"\xff'")
	}
	if lines {
		choices = append(choices, "\n", "\n\n\t", "--\n", " -- let x = \" --\n  ", "\r\n")
	}
	chosen := choices[w.r.Intn(len(choices))]
	if a == "-" && strings.HasPrefix(chosen, "--") {
		return " " + chosen
	}
	return chosen
}

// laid: the text of the tokens with blanks between them, and the sheet with the places that its forms have then.
func (w *spreader) laid() (string, impl.Sheet) {
	var text strings.Builder
	c := noTokens
	from, to, lines := make([]int, len(w.tokens)), make([]int, len(w.tokens)), make([]int, len(w.tokens))
	before := ""
	for i, token := range w.tokens {
		if token == "\n" && w.r.Intn(2) == 0 {
			token = ";"
		}
		text.WriteString(w.blank(before, token, !c.can(impl.TSep)))
		from[i], lines[i] = text.Len(), 1+strings.Count(text.String(), "\n")
		text.WriteString(token)
		to[i], before = text.Len(), token
		row, _ := plainRow(token)
		c = c.behind(row[0].Kind)
	}
	text.WriteString([]string{"", " ", "-- end", "\n", ";;", "--\n\n"}[w.r.Intn(6)])
	s := copiedSheet(impl.Sheet{Forms: w.forms})
	last := len(s.Forms) - 1
	for n := range s.Forms[:last] {
		f := &s.Forms[n]
		f.From, f.To, f.Line = from[w.first[n]], to[w.last[n]], lines[w.first[n]]
	}
	s.Forms[last].To, s.Forms[last].Line = text.Len(), 1
	return text.String(), s
}
