package tests

import (
	"math/rand"
	"regexp"
	"slices"
	"strconv"
	"strings"
	"sync"
	"testing"

	"loop.example/heddle/impl"
)

// tableRow: a row of the document's tables. Its kids are a pattern over the letters of the kids' Kinds, in which <s> stands for
// any statement, <e> for any expression, <b> for one that is no ERest; names and ops are the least and the most.
type tableRow struct {
	kids  string
	names [2]int
	ops   [2]int
	text  string
}

const (
	statLetters  = "abcdefghijklmnop"
	exprLetters  = "ABCDEFGHIJKLMNOPQR"
	entryLetters = "123"
)

// sheetRows: the tables. The letters of the Kinds are those above, in the order of the Kinds: a is a SBlock, g a SIf, G an EName,
// H an ERest, M an EIndex, N an EField, O an ECall, Q an EFn.
var sheetRows = map[int]tableRow{
	impl.SBlock:  {kids: `<s>*`},
	impl.SLet:    {kids: `<e>*`, names: [2]int{1, 200}},
	impl.SConst:  {kids: `<e>`, names: [2]int{1, 1}},
	impl.SFn:     {kids: `Q`, names: [2]int{1, 1}},
	impl.SSet:    {kids: `[GMN]{num}<e>+`},
	impl.SDo:     {kids: `O`},
	impl.SIf:     {kids: `<e>a[ag]?`},
	impl.SWhile:  {kids: `<e>a`},
	impl.SFor:    {kids: `<e><e><e>?a`, names: [2]int{1, 1}},
	impl.SEach:   {kids: `<e>a`, names: [2]int{1, 200}},
	impl.SBreak:  {},
	impl.SNext:   {},
	impl.SReturn: {kids: `<e>*`},
	impl.STry:    {kids: `aa`, names: [2]int{1, 2}},
	impl.SThrow:  {kids: `<e>`},
	impl.SDefer:  {kids: `O`},
	impl.ENil:    {},
	impl.ETrue:   {},
	impl.EFalse:  {},
	impl.EInt:    {},
	impl.EFlt:    {text: "float"},
	impl.EStr:    {text: "string"},
	impl.EName:   {text: "name"},
	impl.ERest:   {},
	impl.EAnd:    {kids: `<e><e>`},
	impl.EOr:     {kids: `<e><e>`},
	impl.EUnary:  {kids: `<e>`, ops: [2]int{19, 22}},
	impl.EBinary: {kids: `<e><e>`, ops: [2]int{1, 18}},
	impl.EIndex:  {kids: `<b><e>`},
	impl.EField:  {kids: `<b>`, text: "name"},
	impl.ECall:   {kids: `<b><e>*`},
	impl.ETable:  {kids: `[123]*`},
	impl.EFn:     {kids: `a`, names: [2]int{0, 200}, ops: [2]int{0, 1}},
	impl.EOne:    {kids: `[OH]`},
	impl.NItem:   {kids: `<e>`},
	impl.NPair:   {kids: `<e><e>`},
	impl.NNamed:  {kids: `<e>`, text: "name"},
}

// sheetKinds: every Kind of the tables, ascending.
func sheetKinds() []int {
	var kinds []int
	for kind := range sheetRows {
		kinds = append(kinds, kind)
	}
	slices.Sort(kinds)
	return kinds
}

// letterOf: a `?` for a Kind outside the tables.
func letterOf(kind int) byte {
	switch {
	case kind >= 1 && kind <= 16:
		return statLetters[kind-1]
	case kind >= 20 && kind <= 37:
		return exprLetters[kind-20]
	case kind >= 40 && kind <= 42:
		return entryLetters[kind-40]
	}
	return '?'
}

// formsMade: patterns that were made already, as they are written out.
var formsMade sync.Map

func formMade(full string) *regexp.Regexp {
	form, known := formsMade.Load(full)
	if !known {
		form = regexp.MustCompile(`^(` + full + `)$`)
		formsMade.Store(full, form)
	}
	return form.(*regexp.Regexp)
}

func kidForm(pattern string) *regexp.Regexp {
	return formMade(strings.NewReplacer("<s>", "["+statLetters+"]", "<e>", "["+exprLetters+"]", "<b>", "[A-GI-R]").Replace(pattern))
}

func plainIsName(text string) bool {
	token, size := plainToken(text)
	return token.Kind == impl.TName && size == len(text) && size <= 40
}

func plainTextFits(rule, text string) bool {
	switch rule {
	case "name":
		return plainIsName(text)
	case "float":
		token, size := plainToken(text)
		return token.Kind == impl.TFlt && size == len(text) && size <= 40
	case "string":
		return len(text) <= 4000
	}
	return text == ""
}

// plainShaped: whether form n is as the tables say.
func plainShaped(forms []impl.Form, n int) bool {
	f := forms[n]
	row, known := sheetRows[f.Kind]
	if !known || f.From < 0 || f.To < f.From || f.Line < 0 || f.Op < row.ops[0] || f.Op > row.ops[1] || !plainTextFits(row.text, f.Text) {
		return false
	}
	if len(f.Names) < row.names[0] || len(f.Names) > row.names[1] || len(f.Kids) > 200 {
		return false
	}
	for _, name := range f.Names {
		if !plainIsName(name) {
			return false
		}
	}
	pattern := row.kids
	if f.Kind == impl.SSet {
		if f.Num < 1 || f.Num > 200 {
			return false
		}
		pattern = strings.ReplaceAll(pattern, "num", strconv.FormatInt(f.Num, 10))
	} else if f.Num != 0 && f.Kind != impl.EInt {
		return false
	}
	var letters []byte
	for _, kid := range f.Kids {
		if kid < 0 || kid >= n {
			return false
		}
		letters = append(letters, letterOf(forms[kid].Kind))
	}
	return kidForm(pattern).Match(letters)
}

// plainWalk: a form's place behind those below it, as a walk through its kids in order meets them; it stops when it has met more than there are.
func plainWalk(forms []impl.Form, n int, met []int) []int {
	for _, kid := range forms[n].Kids {
		if len(met) <= len(forms) {
			met = plainWalk(forms, kid, met)
		}
	}
	return append(met, n)
}

func plainDepths(forms []impl.Form, n, depth int, depths []int) {
	depths[n] = depth
	for _, kid := range forms[n].Kids {
		plainDepths(forms, kid, depth+1, depths)
	}
}

// plainSheetFault: what SheetOk has to answer, one code of the list behind the other.
func plainSheetFault(s impl.Sheet) impl.SheetFault {
	last := len(s.Forms) - 1
	if last < 0 || last >= 3000 || s.Forms[last].Kind != 1 {
		return impl.SheetFault{Code: 1}
	}
	for n := range s.Forms {
		if !plainShaped(s.Forms, n) {
			return impl.SheetFault{Code: 2, Form: n}
		}
	}
	for n := range s.Forms {
		met := plainWalk(s.Forms, n, nil)
		for i, m := range met {
			if m != n-len(met)+1+i {
				return impl.SheetFault{Code: 3, Form: n}
			}
		}
		if n == last && len(met) != len(s.Forms) {
			return impl.SheetFault{Code: 3, Form: n}
		}
	}
	depths := make([]int, len(s.Forms))
	plainDepths(s.Forms, last, 0, depths)
	for n, depth := range depths {
		if depth > 100 {
			return impl.SheetFault{Code: 4, Form: n}
		}
	}
	return impl.SheetFault{}
}

// formAlone: a form of a Kind with the least that its row asks for, but for Kids.
func formAlone(kind int) impl.Form {
	f := impl.Form{Kind: kind, Op: sheetRows[kind].ops[0]}
	for i := range sheetRows[kind].names[0] {
		f.Names = append(f.Names, "n"+strconv.Itoa(i))
	}
	switch sheetRows[kind].text {
	case "name":
		f.Text = "x"
	case "float":
		f.Text = "0.5"
	}
	if kind == impl.SSet {
		f.Num = 1
	}
	return f
}

// leastKids: the Kinds of the fewest kids that a form of a Kind has.
func leastKids(kind int) []int {
	switch kind {
	case impl.SFn:
		return []int{impl.EFn}
	case impl.SSet:
		return []int{impl.EName, impl.EInt}
	case impl.SDo, impl.SDefer, impl.EOne:
		return []int{impl.ECall}
	case impl.SIf, impl.SWhile, impl.SEach:
		return []int{impl.ETrue, impl.SBlock}
	case impl.SFor:
		return []int{impl.EInt, impl.EInt, impl.SBlock}
	case impl.STry:
		return []int{impl.SBlock, impl.SBlock}
	case impl.EFn:
		return []int{impl.SBlock}
	case impl.SConst, impl.SThrow, impl.EUnary, impl.EField, impl.ECall, impl.NItem, impl.NNamed:
		return []int{impl.EName}
	case impl.EAnd, impl.EOr, impl.EBinary, impl.EIndex, impl.NPair:
		return []int{impl.EName, impl.EInt}
	}
	return nil
}

// planted: forms, with a form behind them whose kids are new and as small as they can be, of these Kinds.
func planted(forms []impl.Form, f impl.Form, kinds ...int) []impl.Form {
	f.Kids = nil
	for _, kind := range kinds {
		forms = planted(forms, formAlone(kind), leastKids(kind)...)
		f.Kids = append(f.Kids, len(forms)-1)
	}
	return append(forms, f)
}

// around: a sheet of these forms, in which the last of them stands where it may.
func around(forms []impl.Form) impl.Sheet {
	last := func() int { return len(forms) - 1 }
	kind := forms[last()].Kind
	if kind >= 40 {
		forms = append(forms, impl.Form{Kind: impl.ETable, Kids: []int{last()}})
	}
	if kind >= 20 {
		forms = append(forms, impl.Form{Kind: impl.SThrow, Kids: []int{last()}})
	}
	return impl.Sheet{Forms: append(forms, impl.Form{Kind: impl.SBlock, Kids: []int{last()}})}
}

// sheetWith: a sheet that holds a form with kids of these Kinds, and the form's place.
func sheetWith(f impl.Form, kinds ...int) (impl.Sheet, int) {
	forms := planted(nil, f, kinds...)
	return around(forms), len(forms) - 1
}

func checkSheet(t *testing.T, what string, s impl.Sheet, want impl.SheetFault) {
	t.Helper()
	if got := impl.SheetOk(s); got != want {
		t.Errorf("%s: %v, want %v", what, got, want)
	}
}

func checkSound(t *testing.T, what string, s impl.Sheet) {
	t.Helper()
	checkSheet(t, what, s, impl.SheetFault{})
}

// checkOneForm: a form with kids of these Kinds is as the tables say, or is not.
func checkOneForm(t *testing.T, what string, sound bool, f impl.Form, kinds ...int) {
	t.Helper()
	s, n := sheetWith(f, kinds...)
	want := impl.SheetFault{}
	if !sound {
		want = impl.SheetFault{Code: 2, Form: n}
	}
	checkSheet(t, what, s, want)
	if plain := plainSheetFault(s); plain != want {
		t.Errorf("%s: the tables as the tests have them say %v, not %v", what, plain, want)
	}
}

func copiedSheet(s impl.Sheet) impl.Sheet {
	out := impl.Sheet{Forms: slices.Clone(s.Forms)}
	for i, f := range out.Forms {
		out.Forms[i].Names = slices.Clone(f.Names)
		out.Forms[i].Kids = slices.Clone(f.Kids)
	}
	return out
}

func sameSheet(a, b impl.Sheet) bool {
	return slices.EqualFunc(a.Forms, b.Forms, func(x, y impl.Form) bool {
		return x.Kind == y.Kind && x.From == y.From && x.To == y.To && x.Line == y.Line && x.Op == y.Op && x.Num == y.Num &&
			x.Text == y.Text && slices.Equal(x.Names, y.Names) && slices.Equal(x.Kids, y.Kids)
	})
}

// sheetMaker grows sound sheets by chance; left is how many forms it may still spend freely.
type sheetMaker struct {
	r     *rand.Rand
	forms []impl.Form
	left  int
}

func (m *sheetMaker) any(kinds ...int) int { return kinds[m.r.Intn(len(kinds))] }

func (m *sheetMaker) statement() int {
	if m.left < 0 {
		return m.any(impl.SBlock, impl.SBreak, impl.SNext, impl.SReturn, impl.SLet)
	}
	return 1 + m.r.Intn(16)
}

func (m *sheetMaker) expression() int {
	if m.left < 0 {
		return m.any(impl.ENil, impl.EInt, impl.EFlt, impl.EStr, impl.EName, impl.ERest, impl.ETable)
	}
	return 20 + m.r.Intn(18)
}

// list: any number of Kinds that one gives, few when not much is left.
func (m *sheetMaker) list(one func() int) []int {
	var kinds []int
	for range m.r.Intn(4) {
		if m.left >= 0 {
			kinds = append(kinds, one())
		}
	}
	return kinds
}

// kidKinds: Kinds of kids for a form of a Kind, and what its Num is then.
func (m *sheetMaker) kidKinds(kind int) ([]int, int64) {
	switch kind {
	case impl.SBlock:
		return m.list(m.statement), 0
	case impl.SLet, impl.SReturn:
		return m.list(m.expression), 0
	case impl.ETable:
		return m.list(func() int { return 40 + m.r.Intn(3) }), 0
	case impl.ECall:
		return append([]int{impl.EName}, m.list(m.expression)...), 0
	case impl.SSet:
		targets := m.list(func() int { return m.any(impl.EName, impl.EIndex, impl.EField) })
		targets = append(targets, impl.EName)
		return append(append(slices.Clone(targets), m.list(m.expression)...), m.expression()), int64(len(targets))
	case impl.SIf:
		third := m.list(func() int { return m.any(impl.SBlock, impl.SIf) })
		return append([]int{m.expression(), impl.SBlock}, third[:min(1, len(third))]...), 0
	case impl.SFor:
		third := m.list(m.expression)
		return append(append([]int{m.expression(), m.expression()}, third[:min(1, len(third))]...), impl.SBlock), 0
	}
	kinds := slices.Clone(leastKids(kind))
	for i, kid := range kinds {
		if kid == impl.EInt || kid == impl.ETrue {
			kinds[i] = m.expression()
		}
	}
	return kinds, 0
}

func (m *sheetMaker) grow(kind int) int {
	m.left--
	f := formAlone(kind)
	kinds, num := m.kidKinds(kind)
	f.Num = num
	for _, kid := range kinds {
		f.Kids = append(f.Kids, m.grow(kid))
	}
	f.From = m.r.Intn(12)
	f.To, f.Line = f.From+m.r.Intn(12), m.r.Intn(5)
	m.forms = append(m.forms, f)
	return len(m.forms) - 1
}

// someSheets: so many sheets, sound ones.
func someSheets(count int) []impl.Sheet {
	r := rand.New(rand.NewSource(7))
	var sheets []impl.Sheet
	for i := range count {
		m := sheetMaker{r: r, left: i % 60}
		m.grow(impl.SBlock)
		sheets = append(sheets, impl.Sheet{Forms: m.forms})
	}
	return sheets
}
