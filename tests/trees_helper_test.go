package tests

import (
	"math"
	"math/rand"
	"slices"
	"strconv"
	"testing"

	"loop.example/heddle/impl"
)

func isStatement(kind int) bool { return kind >= 1 && kind <= 16 }

// partOf: a form as a part; a statement that has no Line stands in line 1.
func partOf(f impl.Form) impl.Part {
	p := impl.Part{
		Kind: f.Kind, From: f.From, To: f.To, Line: f.Line, Op: f.Op, Num: f.Num, Text: f.Text,
		Names: slices.Clone(f.Names), Kids: slices.Clone(f.Kids),
	}
	if isStatement(f.Kind) && f.Line == 0 {
		p.Line = 1
	}
	if f.Kind == impl.EFlt {
		p.Flt, _ = strconv.ParseFloat(f.Text, 64)
		p.Text = ""
	}
	return p
}

func treeOf(s impl.Sheet) impl.Tree {
	var t impl.Tree
	for _, f := range s.Forms {
		t.Parts = append(t.Parts, partOf(f))
	}
	return t
}

// partAlone: a part of a Kind with the least that its row asks for, but for Kids.
func partAlone(kind int) impl.Part { return partOf(formAlone(kind)) }

// treeWith: a tree that holds a part with kids of these Kinds, and the part's place.
func treeWith(p impl.Part, kinds ...int) (impl.Tree, int) {
	s, n := sheetWith(impl.Form{Kind: p.Kind}, kinds...)
	t := treeOf(s)
	p.Kids = t.Parts[n].Kids
	t.Parts[n] = p
	return t, n
}

// plainOwn: whether what a part has and a form has not, or otherwise, is as the document says.
func plainOwn(p impl.Part) bool {
	least := 0
	if isStatement(p.Kind) {
		least = 1
	}
	if p.Line < least || p.Line > 100000 || math.IsNaN(p.Flt) {
		return false
	}
	if p.Kind == impl.EFlt {
		return p.Text == ""
	}
	return p.Flt == 0
}

// plainTreeFault: what TreeOk has to answer: what a sheet of the same forms has, and plainOwn.
func plainTreeFault(t impl.Tree) impl.Wrong {
	var forms []impl.Form
	for _, p := range t.Parts {
		f := impl.Form{Kind: p.Kind, From: p.From, To: p.To, Line: p.Line, Op: p.Op, Num: p.Num, Text: p.Text, Names: p.Names, Kids: p.Kids}
		if f.Kind == impl.EFlt {
			f.Text = "0.5"
		}
		forms = append(forms, f)
	}
	fault := plainSheetFault(impl.Sheet{Forms: forms})
	own := slices.IndexFunc(t.Parts, func(p impl.Part) bool { return !plainOwn(p) })
	if fault.Code != 1 && own >= 0 && (fault.Code != 2 || own < fault.Form) {
		return impl.Wrong{Code: 2, Part: own}
	}
	return impl.Wrong{Code: fault.Code, Part: fault.Form}
}

func checkTree(t *testing.T, what string, x impl.Tree, want impl.Wrong) {
	t.Helper()
	if got := impl.TreeOk(x); got != want {
		t.Errorf("%s: %v, want %v", what, got, want)
	}
}

func checkSoundTree(t *testing.T, what string, x impl.Tree) {
	t.Helper()
	checkTree(t, what, x, impl.Wrong{})
}

// checkOnePart: a part with kids of these Kinds is as the tables say, or is not.
func checkOnePart(t *testing.T, what string, sound bool, p impl.Part, kinds ...int) {
	t.Helper()
	x, n := treeWith(p, kinds...)
	want := impl.Wrong{}
	if !sound {
		want = impl.Wrong{Code: 2, Part: n}
	}
	checkTree(t, what, x, want)
	if plain := plainTreeFault(x); plain != want {
		t.Errorf("%s: the tables as the tests have them say %v, not %v", what, plain, want)
	}
}

func copiedTree(x impl.Tree) impl.Tree {
	out := impl.Tree{Parts: slices.Clone(x.Parts)}
	for i, p := range out.Parts {
		out.Parts[i].Names = slices.Clone(p.Names)
		out.Parts[i].Kids = slices.Clone(p.Kids)
	}
	return out
}

func samePart(x, y impl.Part) bool {
	return x.Kind == y.Kind && x.From == y.From && x.To == y.To && x.Line == y.Line && x.Op == y.Op && x.Num == y.Num &&
		same(x.Flt, y.Flt) && x.Text == y.Text && slices.Equal(x.Names, y.Names) && slices.Equal(x.Kids, y.Kids)
}

func sameTree(a, b impl.Tree) bool { return slices.EqualFunc(a.Parts, b.Parts, samePart) }

// spoilTree changes one thing of a tree, or two that stand side by side.
func spoilTree(r *rand.Rand, x *impl.Tree) {
	n := r.Intn(len(x.Parts))
	p := &x.Parts[n]
	switch r.Intn(6) {
	case 0:
		p.Flt = []float64{math.NaN(), minusZero, 1, math.Inf(1)}[r.Intn(4)]
	case 1:
		p.Line = []int{-1, 0, 1, 100000, 100001}[r.Intn(5)]
	case 2:
		p.Text = []string{"", "x", "0.5", "if"}[r.Intn(4)]
	default:
		s := impl.Sheet{}
		for _, p := range x.Parts {
			s.Forms = append(s.Forms, impl.Form{Kind: p.Kind, From: p.From, To: p.To, Op: p.Op, Num: p.Num, Names: p.Names, Kids: p.Kids})
		}
		spoilSheet(r, &s)
		for i, f := range s.Forms {
			p := &x.Parts[i]
			p.Kind, p.From, p.To, p.Op, p.Num, p.Names, p.Kids = f.Kind, f.From, f.To, f.Op, f.Num, f.Names, f.Kids
		}
	}
}
