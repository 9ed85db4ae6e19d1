package tests

import (
	"fmt"
	"maps"
	"slices"
	"strings"
	"sync"
	"testing"

	"loop.example/heddle/impl"
)

// textRows: the rows of a text as the document has them, an alternative a line, a repeat as a row of its own. NAME, INT, FLT,
// STR and SEP stand for tokens of these Kinds, the heads of rows for these, all else for itself.
const textRows = `
text stats
stats seps
stats seps stat more seps
more
more more SEP seps stat
seps
seps seps SEP
stat let names
stat let names = exprs
stat const NAME = expr
stat fn NAME body
stat if expr block
stat if expr block other
stat while expr block
stat for NAME = expr , expr block
stat for NAME = expr , expr , expr block
stat for names in expr block
stat break
stat next
stat return
stat return exprs
stat try block catch NAME block
stat try block catch NAME , NAME block
stat throw expr
stat defer call
stat block
stat targets = exprs
stat call
other elif expr block
other elif expr block other
other else block
block { stats }
names NAME
names names , NAME
exprs expr
exprs exprs , expr
targets target
targets targets , target
target NAME
target base . NAME
target base [ expr ]
call base ( )
call base ( exprs )
base NAME
base ( expr )
base base . NAME
base base [ expr ]
base call
body ( ) block
body ( params ) block
params ...
params names
params names , ...
expr unit
expr expr infix unit
unit prefix unit
unit base
unit INT
unit FLT
unit STR
unit nil
unit true
unit false
unit ...
unit fn body
unit table
prefix not
prefix -
prefix #
prefix ~
infix and
infix or
infix +
infix -
infix *
infix /
infix //
infix %
infix &
infix |
infix ~
infix <<
infix >>
infix ..
infix ==
infix ~=
infix <
infix <=
infix >
infix >=
table { }
table { entries }
table { entries , }
entries entry
entries entries , entry
entry expr
entry [ expr ] = expr
entry . NAME = expr
`

// textRow: a head and what it is; heads are below 0, Kinds of tokens above.
type textRow struct {
	head int
	body []int
}

var (
	heads    = map[string]int{}
	textForm = readRows()
	canLack  = nullable()
	noTokens = newChart([]chartItem{{row: 0}})
)

func readRows() []textRow {
	lines := strings.Split(strings.TrimSpace(textRows), "\n")
	for _, line := range lines {
		if head := strings.Fields(line)[0]; heads[head] == 0 {
			heads[head] = -1 - len(heads)
		}
	}
	named := map[string]int{"NAME": 1, "INT": 2, "FLT": 3, "STR": 4, "SEP": 5}
	var rows []textRow
	for _, line := range lines {
		fields := strings.Fields(line)
		row := textRow{head: heads[fields[0]]}
		for _, field := range fields[1:] {
			row.body = append(row.body, heads[field]+named[field]+kindOf[field])
		}
		rows = append(rows, row)
	}
	return rows
}

// nullable: the heads of rows that nothing at all can be.
func nullable() map[int]bool {
	found := map[int]bool{}
	for range textForm {
		for _, row := range textForm {
			if !slices.ContainsFunc(row.body, func(part int) bool { return !found[part] }) {
				found[row.head] = true
			}
		}
	}
	return found
}

// chart: all rows that may be under way behind some tokens; next are those behind one more.
type chart struct {
	items []chartItem
	met   map[chartItem]bool
	next  map[int]*chart
	kinds []int // of the tokens that can stand next, ascending
}

// chartItem: a row, how much of it has been, and behind which tokens it began (nil for this very chart).
type chartItem struct {
	row, done int
	from      *chart
}

func (item chartItem) part() int {
	if body := textForm[item.row].body; item.done < len(body) {
		return body[item.done]
	}
	return 0
}

func newChart(items []chartItem) *chart {
	c := &chart{met: map[chartItem]bool{}, next: map[int]*chart{}}
	for _, item := range items {
		c.add(item)
	}
	for i := 0; i < len(c.items); i++ {
		c.follow(c.items[i])
	}
	c.met, c.kinds = nil, kindsNext(c.items)
	return c
}

func (c *chart) add(item chartItem) {
	if !c.met[item] {
		c.met[item] = true
		c.items = append(c.items, item)
	}
}

func (c *chart) follow(item chartItem) {
	part := item.part()
	if part < 0 {
		for i, row := range textForm {
			if row.head == part {
				c.add(chartItem{row: i})
			}
		}
		if canLack[part] {
			c.add(chartItem{item.row, item.done + 1, item.from})
		}
	}
	if part != 0 || item.from == nil {
		return
	}
	for _, outer := range item.from.items {
		if outer.part() == textForm[item.row].head {
			from := outer.from
			if from == nil {
				from = item.from
			}
			c.add(chartItem{outer.row, outer.done + 1, from})
		}
	}
}

func kindsNext(items []chartItem) []int {
	has := map[int]bool{}
	for _, item := range items {
		part := item.part()
		if part > 0 {
			has[part] = true
		}
		if part == 0 && item.row == 0 {
			has[impl.TEnd] = true
		}
	}
	return slices.Sorted(maps.Keys(has))
}

func (c *chart) can(kind int) bool { return slices.Contains(c.kinds, kind) }

// behind: the chart behind one more token, nil when it cannot stand; a newline is a SEP where one can stand, else a blank.
func (c *chart) behind(kind int) *chart {
	if kind == impl.TLine {
		if !c.can(impl.TSep) {
			return c
		}
		kind = impl.TSep
	}
	if after, known := c.next[kind]; known {
		return after
	}
	var moved []chartItem
	for _, item := range c.items {
		if item.part() == kind {
			from := item.from
			if from == nil {
				from = c
			}
			moved = append(moved, chartItem{item.row, item.done + 1, from})
		}
	}
	var after *chart
	if len(moved) > 0 {
		after = newChart(moved)
	}
	c.next[kind] = after
	return after
}

// chartOf: nil when the text is no row of tokens, or one of them cannot stand.
func chartOf(text string) *chart {
	tokens, ok := plainRow(text)
	if !ok {
		return nil
	}
	c := noTokens
	for _, token := range tokens {
		if c = c.behind(token.Kind); c == nil {
			return nil
		}
	}
	return c
}

func plainNext(text string) []int {
	c := chartOf(text)
	if c == nil || len(text) > impl.MaxText {
		return nil
	}
	return c.kinds
}

// textEnds: all that a token may lack at its end.
var textEnds = slices.Concat([]string{"", `"`, `n"`, `0"`, `00"`, "0", "-", ".", "..", "=", "<", ">", "/", "_"}, wordEnds())

func wordEnds() []string {
	var ends []string
	for kind, word := range fixedKinds {
		for i := 1; i < len(word) && kind >= 10 && kind <= 31; i++ {
			ends = append(ends, word[i:])
		}
	}
	return ends
}

// textBegun: what beginsText has answered.
var textBegun sync.Map

func beginsText(text string) bool {
	begins, known := textBegun.Load(text)
	if !known {
		begins = slices.ContainsFunc(textEnds, func(end string) bool { return chartOf(text+end) != nil })
		textBegun.Store(text, begins)
	}
	return begins.(bool)
}

// plainTextFault: whether a text is well-formed, and if not, the first byte with which no text begins.
func plainTextFault(text string) (bool, int) {
	if c := chartOf(text); c != nil && c.can(impl.TEnd) {
		return true, 0
	}
	for at := range len(text) {
		if !beginsText(text[:at+1]) {
			return false, at
		}
	}
	return false, len(text)
}

// checkText holds Parse's fault and Next against the rows.
func checkText(t *testing.T, text string) {
	t.Helper()
	p := impl.Parse(text)
	formed, at := plainTextFault(text)
	if formed != (p.Code == 0) || p.Code > 1 || p.At != at || p.Code == 1 && len(p.Sheet.Forms) > 0 {
		t.Errorf("%q: code %d at %d, %d forms; want well-formed %v, at %d", shortly(text), p.Code, p.At, len(p.Sheet.Forms), formed, at)
	}
	checkNext(t, text, plainNext(text))
}

func checkNext(t *testing.T, text string, want []int) {
	t.Helper()
	if got := impl.Next(text); !slices.Equal(got, want) {
		t.Errorf("%q: Next is %v, want %v", shortly(text), got, want)
	}
}

func checkStray(t *testing.T, text string, at int) {
	t.Helper()
	p := impl.Parse(text)
	if p.Code != 1 || p.At != at || len(p.Sheet.Forms) != 0 {
		t.Errorf("%q: code %d at %d, %d forms; want code 1 at %d", shortly(text), p.Code, p.At, len(p.Sheet.Forms), at)
	}
}

// checkTooLarge: a code 2 has nothing beside it.
func checkTooLarge(t *testing.T, what, text string) {
	t.Helper()
	p := impl.Parse(text)
	if p.Code != 2 || p.At != 0 || len(p.Sheet.Forms) != 0 {
		t.Errorf("%s: code %d at %d, %d forms; want code 2 alone", what, p.Code, p.At, len(p.Sheet.Forms))
	}
}

// formsTold: each form as Kind:From-To, with /Line when that is not 1.
func formsTold(s impl.Sheet) string {
	var told []string
	for _, f := range s.Forms {
		one := fmt.Sprintf("%d:%d-%d", f.Kind, f.From, f.To)
		if f.Line != 1 {
			one += fmt.Sprintf("/%d", f.Line)
		}
		told = append(told, one)
	}
	return strings.Join(told, " ")
}

func checkForms(t *testing.T, text, want string) {
	t.Helper()
	p := impl.Parse(text)
	if got := formsTold(p.Sheet); p.Code != 0 || p.At != 0 || got != want {
		t.Errorf("%q: code %d at %d, %s; want %s", text, p.Code, p.At, got, want)
	}
}

// bareTold: a text's sheet without places, as a text; nothing when it has none.
func bareTold(text string) string { return impl.Dump(impl.Bare(impl.Parse(text).Sheet)) }

// checkSame: two texts have one sheet but for places.
func checkSame(t *testing.T, a, b string) {
	t.Helper()
	if x, y := bareTold(a), bareTold(b); x == "" || x != y {
		t.Errorf("%q is\n%s%q is\n%s", a, x, b, y)
	}
}
