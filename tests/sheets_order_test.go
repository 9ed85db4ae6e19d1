package tests

import (
	"fmt"
	"math"
	"math/rand"
	"slices"
	"testing"

	"loop.example/heddle/impl"
)

// callSheet: f(a + b, c); return
func callSheet() impl.Sheet {
	return impl.Sheet{Forms: []impl.Form{
		{Kind: impl.EName, Text: "f"},
		{Kind: impl.EName, Text: "a"},
		{Kind: impl.EName, Text: "b"},
		{Kind: impl.EBinary, Op: impl.OpAdd, Kids: []int{1, 2}},
		{Kind: impl.EName, Text: "c"},
		{Kind: impl.ECall, Kids: []int{0, 3, 4}},
		{Kind: impl.SDo, Kids: []int{5}},
		{Kind: impl.SReturn},
		{Kind: impl.SBlock, Kids: []int{6, 7}},
	}}
}

// P2: a kid is a place ahead of its form.
func TestSheetKidPlaces(t *testing.T) {
	for _, kid := range []int{math.MinInt, -2, -1, 3, 4, 8, 9, 1 << 32, math.MaxInt} {
		for i := range 2 {
			s := callSheet()
			s.Forms[3].Kids[i] = kid
			checkSheet(t, fmt.Sprint("kid ", i, " is ", kid), s, impl.SheetFault{Code: 2, Form: 3})
		}
	}
	first := impl.Sheet{Forms: []impl.Form{{Kind: impl.SBlock, Kids: []int{0}}}}
	checkSheet(t, "a form that is its own kid", first, impl.SheetFault{Code: 2})
	first.Forms[0].Kids[0] = -1
	checkSheet(t, "a kid below 0 of the only form", first, impl.SheetFault{Code: 2})
}

// P2: the forms below a form stand just ahead of it, in the order of a walk.
func TestSheetOrder(t *testing.T) {
	checkSound(t, "a call", callSheet())
	for _, c := range []struct {
		what string
		form int
		kids []int
		want impl.SheetFault
	}{
		{"two kids the other way round", 3, []int{2, 1}, impl.SheetFault{Code: 3, Form: 3}},
		{"the same kid twice, the last one", 3, []int{2, 2}, impl.SheetFault{Code: 3, Form: 3}},
		{"the same kid twice, the first one", 3, []int{1, 1}, impl.SheetFault{Code: 3, Form: 3}},
		{"kids further ahead", 3, []int{0, 1}, impl.SheetFault{Code: 3, Form: 3}},
		{"a kid left out in the midst", 3, []int{0, 2}, impl.SheetFault{Code: 3, Form: 3}},
		{"arguments the other way round", 5, []int{0, 4, 3}, impl.SheetFault{Code: 3, Form: 5}},
		{"an argument left out at the end", 5, []int{0, 3}, impl.SheetFault{Code: 3, Form: 5}},
		{"an argument left out in the midst", 5, []int{0, 4}, impl.SheetFault{Code: 3, Form: 5}},
		{"a kid's kid as a kid too", 5, []int{0, 2, 3, 4}, impl.SheetFault{Code: 3, Form: 5}},
		{"a kid's kid in its place", 5, []int{0, 1, 4}, impl.SheetFault{Code: 3, Form: 5}},
		{"a first argument left out", 5, []int{3, 4}, impl.SheetFault{Code: 3, Form: 8}},
		{"statements the other way round", 8, []int{7, 6}, impl.SheetFault{Code: 3, Form: 8}},
		{"the last statement alone", 8, []int{7}, impl.SheetFault{Code: 3, Form: 8}},
		{"the first statement alone", 8, []int{6}, impl.SheetFault{Code: 3, Form: 8}},
		{"no statement", 8, nil, impl.SheetFault{Code: 3, Form: 8}},
		{"a statement twice", 8, []int{6, 7, 7}, impl.SheetFault{Code: 3, Form: 8}},
	} {
		s := callSheet()
		s.Forms[c.form].Kids = c.kids
		checkSheet(t, c.what, s, c.want)
	}
}

// P2: a form that two have as a kid, one that none has, and the forms of one pushed between those of another.
func TestSheetSharedKids(t *testing.T) {
	leaf := impl.Form{Kind: impl.EName, Text: "x"}
	checkSheet(t, "a form that two have", impl.Sheet{Forms: []impl.Form{
		leaf, {Kind: impl.SThrow, Kids: []int{0}}, {Kind: impl.SThrow, Kids: []int{0}}, {Kind: impl.SBlock, Kids: []int{1, 2}},
	}}, impl.SheetFault{Code: 3, Form: 2})
	checkSheet(t, "a form that none has, ahead of all", impl.Sheet{Forms: []impl.Form{
		leaf, leaf, {Kind: impl.SThrow, Kids: []int{1}}, {Kind: impl.SBlock, Kids: []int{2}},
	}}, impl.SheetFault{Code: 3, Form: 3})
	checkSheet(t, "a form that none has, between", impl.Sheet{Forms: []impl.Form{
		leaf, leaf, {Kind: impl.SThrow, Kids: []int{0}}, {Kind: impl.SBlock, Kids: []int{2}},
	}}, impl.SheetFault{Code: 3, Form: 2})
	checkSheet(t, "the leaves first", impl.Sheet{Forms: []impl.Form{
		leaf, leaf, {Kind: impl.SThrow, Kids: []int{0}}, {Kind: impl.SThrow, Kids: []int{1}}, {Kind: impl.SBlock, Kids: []int{2, 3}},
	}}, impl.SheetFault{Code: 3, Form: 2})
	checkSheet(t, "the leaves first, the other way round", impl.Sheet{Forms: []impl.Form{
		leaf, leaf, {Kind: impl.SThrow, Kids: []int{1}}, {Kind: impl.SThrow, Kids: []int{0}}, {Kind: impl.SBlock, Kids: []int{2, 3}},
	}}, impl.SheetFault{Code: 3, Form: 3})
	checkSheet(t, "two texts", impl.Sheet{Forms: []impl.Form{{Kind: impl.SBlock}, {Kind: impl.SBlock}}}, impl.SheetFault{Code: 3, Form: 1})
}

// deepSheet: a SBreak below so many SBlocks, and another one behind the innermost.
func deepSheet(depth int) impl.Sheet {
	forms := []impl.Form{{Kind: impl.SBreak}, {Kind: impl.SNext}}
	kids := []int{0, 1}
	for range depth {
		forms = append(forms, impl.Form{Kind: impl.SBlock, Kids: kids})
		kids = []int{len(forms) - 1}
	}
	return impl.Sheet{Forms: forms}
}

// P2: a depth of 100 is sound, one of 101 is not; of several the first form counts.
func TestSheetDepth(t *testing.T) {
	checkSound(t, "depth 99", deepSheet(99))
	checkSound(t, "depth 100", deepSheet(100))
	checkSheet(t, "depth 101", deepSheet(101), impl.SheetFault{Code: 4, Form: 0})
	checkSheet(t, "depth 1000", deepSheet(1000), impl.SheetFault{Code: 4, Form: 0})

	// A flat statement ahead of the deep one moves the first fault behind it.
	s := deepSheet(101)
	for n := range s.Forms {
		for i := range s.Forms[n].Kids {
			s.Forms[n].Kids[i] += 3
		}
	}
	s.Forms = append([]impl.Form{{Kind: impl.ENil}, {Kind: impl.SThrow, Kids: []int{0}}, {Kind: impl.SBreak}}, s.Forms...)
	last := len(s.Forms) - 1
	s.Forms[last].Kids = append([]int{1, 2}, s.Forms[last].Kids...)
	checkSheet(t, "a deep statement behind two flat ones", s, impl.SheetFault{Code: 4, Form: 3})
}

// P2: of several faults the first by its code, then by its form.
func TestSheetFirstFault(t *testing.T) {
	spoilt := func(spoil ...func(f []impl.Form)) impl.Sheet {
		s := callSheet()
		for _, one := range spoil {
			one(s.Forms)
		}
		return s
	}
	lastKind := func(f []impl.Form) { f[8].Kind = impl.SReturn }
	shapeAt := func(n int) func(f []impl.Form) { return func(f []impl.Form) { f[n].Line = -1 } }
	orderAt3 := func(f []impl.Form) { f[3].Kids = []int{2, 1} }
	orderAt5 := func(f []impl.Form) { f[5].Kids = []int{0, 4, 3} }
	orderAt8 := func(f []impl.Form) { f[8].Kids = []int{7} }
	checkSheet(t, "1 ahead of 2", spoilt(lastKind, shapeAt(0)), impl.SheetFault{Code: 1})
	checkSheet(t, "1 ahead of 3", spoilt(lastKind, orderAt3), impl.SheetFault{Code: 1})
	checkSheet(t, "two of code 2", spoilt(shapeAt(6), shapeAt(2)), impl.SheetFault{Code: 2, Form: 2})
	checkSheet(t, "2 at the last form", spoilt(shapeAt(8)), impl.SheetFault{Code: 2, Form: 8})
	checkSheet(t, "2 ahead of 3 at a form ahead", spoilt(orderAt3, shapeAt(7)), impl.SheetFault{Code: 2, Form: 7})
	checkSheet(t, "2 and 3 at one form", spoilt(orderAt5, shapeAt(5)), impl.SheetFault{Code: 2, Form: 5})
	checkSheet(t, "two of code 3", spoilt(orderAt5, orderAt3), impl.SheetFault{Code: 3, Form: 3})
	checkSheet(t, "three of code 3", spoilt(orderAt8, orderAt5, orderAt3), impl.SheetFault{Code: 3, Form: 3})
	checkSheet(t, "3 and the last one", spoilt(orderAt8, orderAt5), impl.SheetFault{Code: 3, Form: 5})

	deep := deepSheet(101)
	deep.Forms[60].Op = 1
	checkSheet(t, "2 ahead of 4", deep, impl.SheetFault{Code: 2, Form: 60})
	deep = deepSheet(101)
	deep.Forms[2].Kids = []int{1}
	checkSheet(t, "3 ahead of 4", deep, impl.SheetFault{Code: 3, Form: 102})
	large := wideSheet(3001)
	large.Forms[0].Kind = 0
	checkSheet(t, "too many forms ahead of all", large, impl.SheetFault{Code: 1})
}

// P2: sheets by chance are sound, and spoilt in one or two places have the fault that the list says.
func TestSheetsByChance(t *testing.T) {
	r := rand.New(rand.NewSource(11))
	codes := map[int]int{}
	for _, s := range someSheets(3000) {
		checkSound(t, shortly(s), s)
		for range 6 {
			bad := copiedSheet(s)
			for range 1 + r.Intn(2) {
				spoilSheet(r, &bad)
			}
			want := plainSheetFault(bad)
			checkSheet(t, shortly(bad), bad, want)
			codes[want.Code]++
		}
	}
	for code := range 4 {
		if codes[code] < 100 {
			t.Errorf("only %d of these sheets had the code %d", codes[code], code)
		}
	}
}

// spoilSheet changes one thing of a sheet, or two that stand side by side.
func spoilSheet(r *rand.Rand, s *impl.Sheet) {
	n := r.Intn(len(s.Forms))
	f := &s.Forms[n]
	switch r.Intn(9) {
	case 0:
		f.Kind = r.Intn(45)
	case 1:
		f.Num += int64(r.Intn(3) - 1)
	case 2:
		f.Op = r.Intn(24)
	case 3:
		f.From, f.To = f.To, f.From
	case 4:
		f.Names = append(f.Names, "more")
	case 5:
		other := r.Intn(len(s.Forms))
		s.Forms[n], s.Forms[other] = s.Forms[other], s.Forms[n]
	default:
		spoilKids(r, f, n)
	}
}

func spoilKids(r *rand.Rand, f *impl.Form, n int) {
	if len(f.Kids) == 0 {
		f.Kids = []int{r.Intn(n + 1)}
		return
	}
	i := r.Intn(len(f.Kids))
	switch r.Intn(4) {
	case 0:
		f.Kids[i] += r.Intn(5) - 2
	case 1:
		f.Kids = slices.Delete(f.Kids, i, i+1)
	case 2:
		f.Kids = slices.Insert(f.Kids, i, f.Kids[r.Intn(len(f.Kids))])
	case 3:
		j := r.Intn(len(f.Kids))
		f.Kids[i], f.Kids[j] = f.Kids[j], f.Kids[i]
	}
}
