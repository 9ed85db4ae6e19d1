package tests

import (
	"fmt"
	"math"
	"math/rand"
	"slices"
	"strings"
	"testing"

	"loop.example/heddle/impl"
)

// plainBuiltins: the names of builtins, by number.
var plainBuiltins = strings.Fields("print read type text setkind kind rawget rawset task resume yield status giveup collect cells")

// textTree: the tree of a text, which has to have one.
func textTree(t *testing.T, text string) impl.Tree {
	t.Helper()
	p := impl.Parse(text)
	x := impl.Grow(p.Sheet)
	if fault := impl.TreeOk(x); p.Code != 0 || fault != (impl.Wrong{}) {
		t.Fatalf("%q has no tree: code %d at %d, %v", text, p.Code, p.At, fault)
	}
	return x
}

// namesTree: a tree by chance, with few names, so that many of them meet; builtins are among them.
func namesTree(seed int64) impl.Tree {
	r := rand.New(rand.NewSource(seed))
	var x impl.Tree
	for plainTreeFault(x) != (impl.Wrong{}) {
		m := formMaker{r: r, left: 20 + r.Intn(180)}
		m.grow(impl.SBlock)
		x = treeOf(impl.Sheet{Forms: m.forms})
	}
	name := func() string { return []string{"a", "b", "c", "print", "cells", "printer"}[r.Intn(6)] }
	for n := range x.Parts {
		p := &x.Parts[n]
		for i := range p.Names {
			p.Names[i] = name()
		}
		if p.Kind == impl.EName {
			p.Text = name()
		}
	}
	return x
}

// plainParents: the part of which each part is a kid; -1 for the last one.
func plainParents(parts []impl.Part) []int {
	parents := slices.Repeat([]int{-1}, len(parts))
	for n, p := range parts {
		for _, kid := range p.Kids {
			parents[kid] = n
		}
	}
	return parents
}

// plainDeclares: which of a part's names, the last one, is this; -1 for none.
func plainDeclares(p impl.Part, name string) int {
	for i := len(p.Names) - 1; i >= 0; i-- {
		if p.Names[i] == name {
			return i
		}
	}
	return -1
}

// plainHolders: the parts whose declarations hold for a kid of a part, the innermost first.
func plainHolders(parts []impl.Part, parent, kid int) []int {
	p := parts[parent]
	at := slices.Index(p.Kids, kid)
	switch p.Kind {
	case impl.SFor, impl.SEach, impl.STry, impl.EFn:
		if at == len(p.Kids)-1 {
			return []int{parent}
		}
	case impl.SBlock:
		var found []int
		if parts[kid].Kind == impl.SFn {
			found = append(found, kid)
		}
		for _, ahead := range slices.Backward(p.Kids[:at]) {
			if k := parts[ahead].Kind; k == impl.SLet || k == impl.SConst || k == impl.SFn {
				found = append(found, ahead)
			}
		}
		return found
	}
	return nil
}

// plainUse: what an EName is, looked for from its place outwards.
func plainUse(parts []impl.Part, parents []int, n int) impl.Use {
	name, kind := parts[n].Text, impl.UVar
	for kid := n; parents[kid] >= 0; kid = parents[kid] {
		for _, holder := range plainHolders(parts, parents[kid], kid) {
			place := plainDeclares(parts[holder], name)
			if place >= 0 && parts[holder].Kind == impl.SConst {
				return impl.Use{Part: n, Kind: impl.UConst, Decl: holder, Place: place}
			}
			if place >= 0 {
				return impl.Use{Part: n, Kind: kind, Decl: holder, Place: place}
			}
		}
		if parts[parents[kid]].Kind == impl.EFn {
			kind = impl.UUp
		}
	}
	if number := slices.Index(plainBuiltins, name); number >= 0 {
		return impl.Use{Part: n, Kind: impl.UBuiltin, Decl: -1, Place: number}
	}
	return impl.Use{Part: n, Kind: impl.UNone, Decl: -1}
}

func plainUses(x impl.Tree) []impl.Use {
	var uses []impl.Use
	parents := plainParents(x.Parts)
	for n, p := range x.Parts {
		if p.Kind == impl.EName {
			uses = append(uses, plainUse(x.Parts, parents, n))
		}
	}
	return uses
}

var declarers = map[int]string{
	impl.SLet: "let", impl.SConst: "const", impl.SFn: "fn", impl.SFor: "for", impl.SEach: "each", impl.STry: "try", impl.EFn: "param",
}

// usesTold: each use as name=kind, and by which part it is declared, with its Line and, behind a point, the place if that is not 0.
func usesTold(x impl.Tree) string {
	var told []string
	for _, u := range impl.Uses(x) {
		one := x.Parts[u.Part].Text + "=" + []string{"none", "var", "up", "const", "builtin"}[u.Kind]
		switch {
		case u.Kind == impl.UBuiltin:
			one += fmt.Sprint(u.Place)
		case u.Decl >= 0:
			p := x.Parts[u.Decl]
			one += fmt.Sprint(":", declarers[p.Kind], p.Line)
			if u.Place != 0 {
				one += fmt.Sprint(".", u.Place)
			}
		}
		told = append(told, one)
	}
	return strings.Join(told, " ")
}

// checkUses: the uses of a text, told as above; they are the ones that a look outwards finds, too.
func checkUses(t *testing.T, text, want string) {
	t.Helper()
	x := textTree(t, text)
	if got := usesTold(x); got != want {
		t.Errorf("%q: %s, want %s", text, got, want)
	}
	if got, plain := impl.Uses(x), plainUses(x); !slices.Equal(got, plain) {
		t.Errorf("%q: %v, but a look outwards finds %v", text, got, plain)
	}
}

// plainWorker works out the parts of a tree by the document's words, from the whole to its kids.
type plainWorker struct {
	parts   []impl.Part
	parents []int
	known   map[int]impl.Valued
}

func (w *plainWorker) value(n int) impl.Valued {
	if v, known := w.known[n]; known {
		return v
	}
	v := w.worked(n)
	if v.Code != 0 {
		v = impl.Valued{Code: 1}
	}
	w.known[n] = v
	return v
}

func (w *plainWorker) worked(n int) impl.Valued {
	p := w.parts[n]
	switch p.Kind {
	case impl.ENil:
		return impl.Valued{}
	case impl.ETrue:
		return plainGives(vBool(true))
	case impl.EFalse:
		return plainGives(vBool(false))
	case impl.EInt:
		return plainGives(vInt(p.Num))
	case impl.EFlt:
		return plainGives(vFlt(p.Flt))
	case impl.EStr:
		return plainGives(vStr(p.Text))
	case impl.EName:
		switch use := plainUse(w.parts, w.parents, n); use.Kind {
		case impl.UConst:
			return w.value(use.Decl)
		case impl.UBuiltin:
			return plainGives(vBuiltin(int64(use.Place)))
		}
	case impl.SConst:
		if v := w.value(p.Kids[0]); !math.IsNaN(v.Value.Flt) {
			return v
		}
	case impl.EUnary:
		if a := w.value(p.Kids[0]); a.Code == 0 {
			return plainUnary(p.Op, a.Value)
		}
	case impl.EBinary, impl.EAnd, impl.EOr:
		return w.ofTwo(p)
	}
	return impl.Valued{Code: 1}
}

func (w *plainWorker) ofTwo(p impl.Part) impl.Valued {
	a, b := w.value(p.Kids[0]), w.value(p.Kids[1])
	switch {
	case a.Code != 0 || b.Code != 0:
		return impl.Valued{Code: 1}
	case p.Kind == impl.EBinary:
		return plainBinary(p.Op, a.Value, b.Value)
	case p.Kind == impl.EAnd && !plainTruth(a.Value) || p.Kind == impl.EOr && plainTruth(a.Value):
		return a
	}
	return b
}

func plainConsts(x impl.Tree) []impl.Const {
	var consts []impl.Const
	w := plainWorker{parts: x.Parts, parents: plainParents(x.Parts), known: map[int]impl.Valued{}}
	for n, p := range x.Parts {
		if p.Kind == impl.SConst {
			v := w.value(n)
			consts = append(consts, impl.Const{Part: n, Code: v.Code, Value: v.Value})
		}
	}
	return consts
}

// valueTold: a value by the fields that its Kind uses; a ? ahead when others are not 0.
func valueTold(v impl.Value) string {
	told := []string{"nil", "false", "int ", "flt ", "str ", "table", "fn", "task", "builtin "}[v.Kind]
	switch v.Kind {
	case impl.KBool:
		told = fmt.Sprint(v.Num == 1)
	case impl.KInt, impl.KBuiltin:
		told += fmt.Sprint(v.Num)
	case impl.KFlt:
		told += fmt.Sprint(v.Flt)
	case impl.KStr:
		told += v.Str
	}
	if !plainValid(v) {
		told = "?" + told
	}
	return told
}

// constsTold: the consts of a tree by their names, in their order; ! for one that cannot be worked out.
func constsTold(x impl.Tree) string {
	var told []string
	for _, c := range impl.Consts(x) {
		one := x.Parts[c.Part].Names[0] + "="
		switch {
		case c.Code == 0:
			one += valueTold(c.Value)
		case c.Code == 1 && c.Value == impl.Value{}:
			one += "!"
		default:
			one += fmt.Sprint("?", c)
		}
		told = append(told, one)
	}
	return strings.Join(told, "; ")
}

func checkConsts(t *testing.T, text, want string) {
	t.Helper()
	x := textTree(t, text)
	if got := constsTold(x); got != want {
		t.Errorf("%q: %s, want %s", text, got, want)
	}
	checkConstsPlain(t, x)
}

func checkConstsPlain(t *testing.T, x impl.Tree) {
	t.Helper()
	if got, want := impl.Consts(x), plainConsts(x); !slices.EqualFunc(got, want, sameConst) {
		t.Errorf("%s: %s, want %s", shortly(x), shortly(got), shortly(want))
	}
}

// literalPart: the literal of a value, or a builtin's name.
func literalPart(v impl.Value) impl.Part {
	switch v.Kind {
	case impl.KBool:
		return impl.Part{Kind: impl.EFalse - int(v.Num)}
	case impl.KInt:
		return impl.Part{Kind: impl.EInt, Num: v.Num}
	case impl.KFlt:
		return impl.Part{Kind: impl.EFlt, Flt: v.Flt}
	case impl.KStr:
		return impl.Part{Kind: impl.EStr, Text: v.Str}
	case impl.KBuiltin:
		return impl.Part{Kind: impl.EName, Text: plainBuiltins[v.Num]}
	}
	return impl.Part{Kind: impl.ENil}
}

// constsTree grows a tree of consts, one behind the other.
type constsTree struct {
	parts []impl.Part
	stats []int
}

// add puts a part behind those that it has as kids, and is its place.
func (c *constsTree) add(p impl.Part, kids ...int) int {
	p.Kids = kids
	c.parts = append(c.parts, p)
	return len(c.parts) - 1
}

func (c *constsTree) literal(v impl.Value) int { return c.add(literalPart(v)) }

func (c *constsTree) name(name string) int { return c.add(impl.Part{Kind: impl.EName, Text: name}) }

// is declares a const with what was added last.
func (c *constsTree) is(name string) {
	n := c.add(impl.Part{Kind: impl.SConst, Line: 1, Names: []string{name}}, len(c.parts)-1)
	c.stats = append(c.stats, n)
}

func (c *constsTree) tree() impl.Tree {
	text := impl.Part{Kind: impl.SBlock, Line: 1, Kids: c.stats}
	return impl.Tree{Parts: append(slices.Clone(c.parts), text)}
}
