package tests

import (
	"fmt"
	"math"
	"math/rand"
	"regexp"
	"slices"
	"strconv"
	"strings"

	"loop.example/heddle/impl"
)

// unitRow: a row of the tables of units. Its kids are a pattern over the letters of the kids' Kinds, <s> and <e> as in tableRow;
// refs and ops are the least and the most, num the least and the most of a Num.
type unitRow struct {
	kids string
	refs [2]int
	ops  [2]int
	num  [2]int64
}

const (
	nodeStatLetters = "abcdefghijklmn"
	nodeExprLetters = "ABCDEFGHIJKLMNOPQRS"
)

// unitRows: the letters are those above, in the order of the Kinds: a is a NBlock, e a NIf, D a NInt, G a NVar, H a NUp,
// N a NIndex, O a NCall, R a NRest.
var unitRows = map[int]unitRow{
	impl.NBlock:   {kids: `<s>*`},
	impl.NLet:     {kids: `<e>*`, refs: [2]int{1, math.MaxInt}},
	impl.NSet:     {kids: `[GHN]{num}<e>+`, num: [2]int64{1, 200}},
	impl.NDo:      {kids: `O`},
	impl.NIf:      {kids: `<e>a[ae]?`},
	impl.NWhile:   {kids: `<e>a`},
	impl.NFor:     {kids: `<e><e><e>a`, refs: [2]int{1, 1}},
	impl.NEach:    {kids: `<e>a`, refs: [2]int{1, 4}},
	impl.NBreak:   {},
	impl.NNext:    {},
	impl.NReturn:  {kids: `<e>*`},
	impl.NTry:     {kids: `aa`, refs: [2]int{2, 2}},
	impl.NThrow:   {kids: `<e>`},
	impl.NDefer:   {kids: `O`},
	impl.NNil:     {},
	impl.NTrue:    {},
	impl.NFalse:   {},
	impl.NInt:     {num: [2]int64{leastInt, mostInt}},
	impl.NFlt:     {},
	impl.NStr:     {},
	impl.NVar:     {refs: [2]int{1, 1}},
	impl.NUp:      {refs: [2]int{1, 1}},
	impl.NBuiltin: {num: [2]int64{0, 14}},
	impl.NAnd:     {kids: `<e><e>`},
	impl.NOr:      {kids: `<e><e>`},
	impl.NUnary:   {kids: `<e>`, ops: [2]int{19, 22}},
	impl.NBinary:  {kids: `<e><e>`, ops: [2]int{1, 18}},
	impl.NIndex:   {kids: `<e><e>`},
	impl.NCall:    {kids: `<e><e>*`},
	impl.NTable:   {kids: `(<e><e>)*`, ops: [2]int{0, 1}},
	impl.NFn:      {refs: [2]int{1, 1}},
	impl.NRest:    {},
	impl.NOne:     {kids: `[OR]`},
}

func nodeKidForm(pattern string) *regexp.Regexp {
	return formMade(strings.NewReplacer("<s>", "["+nodeStatLetters+"]", "<e>", "["+nodeExprLetters+"]").Replace(pattern))
}

func isStatNode(kind int) bool { return kind >= 1 && kind <= 14 }

func plainNodeShaped(nodes []impl.Node, n int) bool {
	node := nodes[n]
	row, known := unitRows[node.Kind]
	lines := [2]int{0, 0}
	if isStatNode(node.Kind) {
		lines = [2]int{1, 100000}
	}
	switch {
	case !known || node.Line < lines[0] || node.Line > lines[1] || node.Op < row.ops[0] || node.Op > row.ops[1],
		node.Num < row.num[0] || node.Num > row.num[1] || len(node.Refs) < row.refs[0] || len(node.Refs) > row.refs[1],
		math.IsNaN(node.Flt) || node.Flt != 0 && node.Kind != impl.NFlt,
		len(node.Str) > 4000 || node.Str != "" && node.Kind != impl.NStr, len(node.Kids) > 200:
		return false
	}
	pattern := strings.ReplaceAll(row.kids, "num", strconv.FormatInt(node.Num, 10))
	if node.Kind == impl.NTable && node.Op == 1 {
		pattern += `D[OR]`
	}
	var letters []byte
	for _, kid := range node.Kids {
		if kid < 0 || kid >= n {
			return false
		}
		switch kind := nodes[kid].Kind; {
		case isStatNode(kind):
			letters = append(letters, nodeStatLetters[kind-1])
		case kind >= 20 && kind <= 38:
			letters = append(letters, nodeExprLetters[kind-20])
		default:
			letters = append(letters, '?')
		}
	}
	return nodeKidForm(pattern).Match(letters)
}

func plainHeadOk(f int, fn impl.Fn) bool {
	for _, name := range fn.Vars {
		if len(name) < 1 || len(name) > 40 {
			return false
		}
	}
	if f == 0 && (fn.Params != 0 || len(fn.Ups) != 0) {
		return false
	}
	return len(fn.Nodes) > 0 && len(fn.Vars) <= 200 && len(fn.Ups) <= 200 && fn.Params >= 0 && fn.Params <= len(fn.Vars) &&
		fn.Line >= 0 && fn.Line <= 100000 && len(fn.Name) <= 40
}

// plainNodeParents: of each node the one of which it is a kid; -1 for none, -2 for several.
func plainNodeParents(nodes []impl.Node) []int {
	parents := slices.Repeat([]int{-1}, len(nodes))
	for n, node := range nodes {
		for _, kid := range node.Kids {
			if parents[kid] == -1 {
				parents[kid] = n
			} else {
				parents[kid] = -2
			}
		}
	}
	return parents
}

// plainHoldsVar: whether a variable is in scope at a node, looked for from there outwards.
func plainHoldsVar(fn impl.Fn, parents []int, n, v int) bool {
	for kid := n; parents[kid] >= 0; kid = parents[kid] {
		parent := fn.Nodes[parents[kid]]
		at := slices.Index(parent.Kids, kid)
		switch parent.Kind {
		case impl.NBlock:
			for _, ahead := range parent.Kids[:at] {
				if fn.Nodes[ahead].Kind == impl.NLet && slices.Contains(fn.Nodes[ahead].Refs, v) {
					return true
				}
			}
		case impl.NFor, impl.NEach, impl.NTry:
			if at == len(parent.Kids)-1 && slices.Contains(parent.Refs, v) {
				return true
			}
		}
	}
	return v >= 0 && v < fn.Params
}

func plainNodeInLoop(fn impl.Fn, parents []int, n int) bool {
	for kid := n; parents[kid] >= 0; kid = parents[kid] {
		switch fn.Nodes[parents[kid]].Kind {
		case impl.NWhile, impl.NFor, impl.NEach:
			return true
		}
	}
	return false
}

// plainRefsOk: of the nodes of a fn of a unit of so many fns the first whose Refs are at fault, or -1.
func plainRefsFault(fn impl.Fn, fns int) int {
	parents := plainNodeParents(fn.Nodes)
	declared := map[int]bool{}
	for v := range fn.Params {
		declared[v] = true
	}
	for n, node := range fn.Nodes {
		for _, ref := range node.Refs {
			there := map[int]int{impl.NUp: len(fn.Ups), impl.NFn: fns}
			most, other := there[node.Kind]
			if !other {
				most = len(fn.Vars)
			}
			declares := node.Kind != impl.NVar && !other
			if ref < 0 || ref >= most || declares && declared[ref] || node.Kind == impl.NVar && !plainHoldsVar(fn, parents, n, ref) {
				return n
			}
			if declares {
				declared[ref] = true
			}
		}
	}
	return -1
}

// plainMaking: of all NFns and NRests the first that is at fault, as code 8 has it; and the fns that are made.
func plainMaking(u impl.Unit) (impl.Fault, map[int]bool) {
	made := map[int]bool{}
	for f, fn := range u.Fns {
		parents := plainNodeParents(fn.Nodes)
		for n, node := range fn.Nodes {
			fault := impl.Fault{Code: 8, Fn: f, Node: n}
			if node.Kind == impl.NRest && !fn.Rest {
				return fault, nil
			}
			if node.Kind != impl.NFn {
				continue
			}
			g := node.Refs[0]
			if g <= f || made[g] {
				return fault, nil
			}
			made[g] = true
			for _, up := range u.Fns[g].Ups {
				if up.Local && !plainHoldsVar(fn, parents, n, up.Index) || !up.Local && (up.Index < 0 || up.Index >= len(fn.Ups)) {
					return fault, nil
				}
			}
		}
	}
	return impl.Fault{}, made
}

// plainUnitFault: what CheckUnit has to answer, one code of the list behind the other.
func plainUnitFault(u impl.Unit) impl.Fault {
	nodes := 0
	for _, fn := range u.Fns {
		nodes += len(fn.Nodes)
	}
	if len(u.Fns) == 0 || len(u.Fns) > 300 || nodes > 3000 {
		return impl.Fault{Code: 1}
	}
	for f, fn := range u.Fns {
		if !plainHeadOk(f, fn) {
			return impl.Fault{Code: 2, Fn: f}
		}
	}
	for _, code := range []int{3, 4, 5, 6, 7} {
		for f, fn := range u.Fns {
			if n := plainNodesFault(code, fn, len(u.Fns)); n >= 0 {
				return impl.Fault{Code: code, Fn: f, Node: n}
			}
		}
	}
	fault, made := plainMaking(u)
	if fault.Code != 0 {
		return fault
	}
	for f := 1; f < len(u.Fns); f++ {
		if !made[f] {
			return impl.Fault{Code: 9, Fn: f}
		}
	}
	return impl.Fault{}
}

// plainNodesFault: the first node of a fn that is at fault by one of the codes 3 to 7, or -1.
func plainNodesFault(code int, fn impl.Fn, fns int) int {
	if code == 3 {
		return slices.IndexFunc(countTo(len(fn.Nodes)), func(n int) bool { return !plainNodeShaped(fn.Nodes, n) })
	}
	if code == 6 {
		return plainRefsFault(fn, fns)
	}
	parents := plainNodeParents(fn.Nodes)
	last := len(fn.Nodes) - 1
	for n, node := range fn.Nodes {
		switch {
		case code == 4 && n < last && parents[n] < 0, code == 4 && n == last && node.Kind != impl.NBlock:
			return n
		case code == 5 && plainNodeDepth(parents, n) > 100:
			return n
		case code == 7 && (node.Kind == impl.NBreak || node.Kind == impl.NNext) && !plainNodeInLoop(fn, parents, n):
			return n
		}
	}
	return -1
}

func countTo(count int) []int {
	var numbers []int
	for n := range count {
		numbers = append(numbers, n)
	}
	return numbers
}

func plainNodeDepth(parents []int, n int) int {
	depth := 0
	for ; parents[n] >= 0; n = parents[n] {
		depth++
	}
	return depth
}

func sameNode(a, b impl.Node) bool {
	return a.Kind == b.Kind && a.Line == b.Line && a.Op == b.Op && a.Num == b.Num && same(a.Flt, b.Flt) && a.Str == b.Str &&
		slices.Equal(a.Refs, b.Refs) && slices.Equal(a.Kids, b.Kids)
}

func sameFn(a, b impl.Fn) bool {
	return a.Name == b.Name && a.Line == b.Line && a.Params == b.Params && a.Rest == b.Rest && slices.Equal(a.Vars, b.Vars) &&
		slices.Equal(a.Ups, b.Ups) && slices.EqualFunc(a.Nodes, b.Nodes, sameNode)
}

func sameUnit(a, b impl.Unit) bool { return slices.EqualFunc(a.Fns, b.Fns, sameFn) }

func copiedUnit(u impl.Unit) impl.Unit {
	out := impl.Unit{Fns: slices.Clone(u.Fns)}
	for f := range out.Fns {
		fn := &out.Fns[f]
		fn.Vars, fn.Ups, fn.Nodes = slices.Clone(fn.Vars), slices.Clone(fn.Ups), slices.Clone(fn.Nodes)
		for n := range fn.Nodes {
			fn.Nodes[n].Refs, fn.Nodes[n].Kids = slices.Clone(fn.Nodes[n].Refs), slices.Clone(fn.Nodes[n].Kids)
		}
	}
	return out
}

// overwriteUnit changes all that a unit's lists hold, up to their capacity, and puts something behind them.
func overwriteUnit(u impl.Unit) {
	for f := range u.Fns {
		fn := &u.Fns[f]
		for n := range fn.Nodes {
			node := &fn.Nodes[n]
			for _, list := range [][]int{node.Refs, node.Kids} {
				list = list[:cap(list)]
				for i := range list {
					list[i] = -99
				}
			}
		}
		fn.Vars, fn.Ups, fn.Nodes = fn.Vars[:cap(fn.Vars)], fn.Ups[:cap(fn.Ups)], fn.Nodes[:cap(fn.Nodes)]
		for i := range fn.Vars {
			fn.Vars[i] = "changed"
		}
		for i := range fn.Ups {
			fn.Ups[i] = impl.Up{Index: -99}
		}
		for i := range fn.Nodes {
			fn.Nodes[i] = impl.Node{Kind: -99}
		}
	}
}

// sharedInts: whether two of a unit's lists of numbers share memory: each is filled, up to its capacity, with a number of its own.
func sharedInts(u impl.Unit) bool {
	var lists [][]int
	for _, fn := range u.Fns {
		for _, node := range fn.Nodes {
			lists = append(lists, node.Refs[:cap(node.Refs)], node.Kids[:cap(node.Kids)])
		}
	}
	for number, list := range lists {
		for i := range list {
			list[i] = number
		}
	}
	for number, list := range lists {
		if slices.ContainsFunc(list, func(n int) bool { return n != number }) {
			return true
		}
	}
	return false
}

var nodeWords = map[int]string{
	impl.NBlock: "block", impl.NLet: "let", impl.NSet: "set", impl.NDo: "do", impl.NIf: "if", impl.NWhile: "while", impl.NFor: "for",
	impl.NEach: "each", impl.NBreak: "break", impl.NNext: "next", impl.NReturn: "return", impl.NTry: "try", impl.NThrow: "throw",
	impl.NDefer: "defer", impl.NNil: "nil", impl.NTrue: "true", impl.NFalse: "false", impl.NAnd: "and", impl.NOr: "or",
	impl.NIndex: "at", impl.NCall: "call", impl.NTable: "table", impl.NRest: "...", impl.NOne: "one",
}

// nodeTold: a node with those below it: a statement's Line behind a colon, what it declares in brackets, targets behind a stroke.
func nodeTold(nodes []impl.Node, n int) string {
	node := nodes[n]
	told := nodeWords[node.Kind]
	switch node.Kind {
	case impl.NInt:
		told = fmt.Sprint(node.Num)
	case impl.NFlt:
		told = fmt.Sprint(node.Flt, "f")
	case impl.NStr:
		told = strconv.Quote(node.Str)
	case impl.NVar, impl.NUp, impl.NFn:
		told = fmt.Sprint(map[int]string{impl.NVar: "v", impl.NUp: "u", impl.NFn: "fn"}[node.Kind], node.Refs[0])
	case impl.NBuiltin:
		told = plainBuiltins[node.Num]
	case impl.NUnary, impl.NBinary:
		told = fmt.Sprint("op", node.Op)
	case impl.NTable:
		told += strings.Repeat("+", node.Op)
	}
	if isStatNode(node.Kind) {
		told += fmt.Sprint(":", node.Line)
		if node.Kind == impl.NSet {
			told += fmt.Sprint("/", node.Num)
		}
		if len(node.Refs) > 0 {
			told += fmt.Sprint(node.Refs)
		}
	}
	var kids []string
	for _, kid := range node.Kids {
		kids = append(kids, nodeTold(nodes, kid))
	}
	if len(kids) > 0 {
		told += "(" + strings.Join(kids, " ") + ")"
	}
	return told
}

// fnTold: its name and line, parameters, + for further ones, variables, what it closes over (with a point ahead when it is one of the
// fn just around), its body.
func fnTold(fn impl.Fn) string {
	var ups []string
	for _, up := range fn.Ups {
		one := fmt.Sprint(up.Index)
		if up.Local {
			one = "." + one
		}
		ups = append(ups, one)
	}
	rest := ""
	if fn.Rest {
		rest = "+"
	}
	return fmt.Sprintf("%s:%d %d%s %v %v %s", fn.Name, fn.Line, fn.Params, rest, fn.Vars, ups, nodeTold(fn.Nodes, len(fn.Nodes)-1))
}

func unitTold(u impl.Unit) string {
	var fns []string
	for _, fn := range u.Fns {
		fns = append(fns, fnTold(fn))
	}
	return strings.Join(fns, "; ")
}

// inWalkOrder: whether nodes stand as a walk through kids in order meets them, each behind its kids.
func inWalkOrder(nodes []impl.Node) bool {
	met := 0
	var walk func(n int) bool
	walk = func(n int) bool {
		for _, kid := range nodes[n].Kids {
			if !walk(kid) {
				return false
			}
		}
		met++
		return n == met-1
	}
	return walk(len(nodes)-1) && met == len(nodes)
}

// spoilUnit changes one thing of a unit.
func spoilUnit(r *rand.Rand, u *impl.Unit) {
	fn := &u.Fns[r.Intn(len(u.Fns))]
	node := &fn.Nodes[r.Intn(len(fn.Nodes))]
	some := []int{-1, 0, 1, 2, 3, len(fn.Vars), len(fn.Vars) - 1, len(fn.Nodes) - 1, 100000, 100001}
	number := some[r.Intn(len(some))]
	switch r.Intn(24) {
	case 0:
		node.Kind = r.Intn(42) - 1
	case 1:
		node.Line = number
	case 2:
		node.Op = r.Intn(25) - 1
	case 3:
		node.Num = int64(number)
	case 4:
		node.Flt = []float64{math.NaN(), 1, minusZero, 0}[r.Intn(4)]
	case 5:
		node.Str = []string{"", "s", strings.Repeat("s", 4000), strings.Repeat("s", 4001)}[r.Intn(4)]
	case 6:
		if len(node.Refs) > 0 {
			node.Refs[r.Intn(len(node.Refs))] = number
		}
	case 7:
		node.Refs = append(node.Refs, number)
	case 8:
		if len(node.Kids) > 0 {
			node.Kids[r.Intn(len(node.Kids))] = number
		}
	case 9:
		node.Kids = append(node.Kids, number)
	case 10:
		fn.Params = number
	case 11:
		fn.Rest = !fn.Rest
	case 12:
		if len(fn.Ups) > 0 {
			fn.Ups[r.Intn(len(fn.Ups))] = impl.Up{Local: r.Intn(2) == 0, Index: number}
		}
	case 13:
		if len(fn.Vars) > 0 {
			fn.Vars[r.Intn(len(fn.Vars))] = []string{"", "+", strings.Repeat("v", 40), strings.Repeat("v", 41)}[r.Intn(4)]
		}
	default:
		turnNode(r, node)
	}
}

// turnNode makes another of a node that its row allows as well.
func turnNode(r *rand.Rand, node *impl.Node) {
	switch {
	case node.Kind == impl.NFn:
		*node = impl.Node{Kind: []int{impl.NNil, impl.NRest}[r.Intn(2)]}
	case node.Kind == impl.NWhile:
		node.Kind = impl.NIf
	case node.Kind == impl.NReturn && len(node.Kids) == 0:
		node.Kind = []int{impl.NBreak, impl.NNext, impl.NBlock}[r.Intn(3)]
	case node.Kind >= impl.NNil && node.Kind <= impl.NFalse:
		node.Kind = impl.NRest
	case node.Kind == impl.NVar:
		node.Kind = []int{impl.NUp, impl.NFn}[r.Intn(2)]
	}
}
