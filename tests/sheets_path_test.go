package tests

import (
	"math"
	"math/rand"
	"slices"
	"testing"

	"loop.example/heddle/impl"
)

// P2: Bare has every form but for its places, of sound and unsound sheets.
func TestBare(t *testing.T) {
	r := rand.New(rand.NewSource(5))
	sheets := append(someSheets(200), impl.Sheet{}, wideSheet(3001), deepSheet(200), oddSheet())
	for _, s := range slices.Clone(sheets)[:200] {
		bad := copiedSheet(s)
		spoilSheet(r, &bad)
		sheets = append(sheets, bad)
	}
	for _, s := range sheets {
		kept := copiedSheet(s)
		want := copiedSheet(s)
		for n := range want.Forms {
			want.Forms[n].From, want.Forms[n].To, want.Forms[n].Line = 0, 0, 0
		}
		bare := impl.Bare(s)
		if !sameSheet(bare, want) {
			t.Errorf("Bare(%s): %s", shortly(s), shortly(bare))
		}
		if !sameSheet(s, kept) {
			t.Errorf("Bare changes %s to %s", shortly(kept), shortly(s))
		}
		overwrite(bare)
		if !sameSheet(s, kept) {
			t.Errorf("Bare of %s shares memory with it", shortly(kept))
		}
	}
}

// oddSheet: forms with all their fields full, as no sound sheet has them.
func oddSheet() impl.Sheet {
	odd := impl.Form{
		Kind: -7, From: 9, To: -4, Line: -1, Op: math.MinInt, Num: math.MaxInt64, Text: "\x00if",
		Names: []string{"", "9", "a"}, Kids: []int{-1, 0, math.MaxInt, 0},
	}
	return impl.Sheet{Forms: []impl.Form{odd, {}, odd, {Kids: []int{}, Names: []string{}}}}
}

// overwrite changes all that a sheet's lists hold, up to their capacity.
func overwrite(s impl.Sheet) {
	for n := range s.Forms {
		f := &s.Forms[n]
		for i := range f.Names[:cap(f.Names)] {
			f.Names[:cap(f.Names)][i] = "changed"
		}
		for i := range f.Kids[:cap(f.Kids)] {
			f.Kids[:cap(f.Kids)][i] = -99
		}
	}
	for n := range s.Forms[:cap(s.Forms)] {
		s.Forms[:cap(s.Forms)][n] = impl.Form{Kind: -99}
	}
}

// P2: no two lists of what Bare answers share memory, though those of its argument do.
func TestBareSharesNothing(t *testing.T) {
	kids, names := []int{0, 0, 0, 0}, []string{"a", "b", "c", "d"}
	s := impl.Sheet{Forms: []impl.Form{{Kids: kids[:2], Names: names[:2]}, {Kids: kids, Names: names}, {Kids: kids[1:3], Names: names[1:3]}}}
	bare := impl.Bare(s)
	for n := range bare.Forms {
		for i := range bare.Forms[n].Kids {
			bare.Forms[n].Kids[i] = n + 1
			bare.Forms[n].Names[i] = string(rune('p' + n))
		}
		bare.Forms[n].Kids = append(bare.Forms[n].Kids, -5)
		bare.Forms[n].Names = append(bare.Forms[n].Names, "q")
	}
	for n, f := range bare.Forms {
		for i := range len(f.Kids) - 1 {
			if f.Kids[i] != n+1 || f.Names[i] != string(rune('p'+n)) {
				t.Errorf("form %d: %v %v", n, f.Kids, f.Names)
			}
		}
	}
	if !slices.Equal(kids, []int{0, 0, 0, 0}) || !slices.Equal(names, []string{"a", "b", "c", "d"}) {
		t.Error("the argument was changed:", kids, names)
	}
}

// P2: nothing is written into the argument of SheetOk and Path, not behind the ends of its lists either.
func TestSheetArguments(t *testing.T) {
	for _, s := range append(someSheets(100), oddSheet(), callSheet(), deepSheet(101)) {
		kept := copiedSheet(s)
		whole := slices.Clone(s.Forms[:cap(s.Forms)])
		first, path := impl.SheetOk(s), impl.Path(s, 3)
		for i := range path {
			path[i] = -1
		}
		if impl.SheetOk(s) != first || !sameSheet(s, kept) || !sameSheet(impl.Sheet{Forms: whole}, impl.Sheet{Forms: s.Forms[:cap(s.Forms)]}) {
			t.Errorf("SheetOk or Path changes %s", shortly(kept))
		}
	}
}

func has(f impl.Form, at int) bool { return f.From <= at && at < f.To }

// plainPath: the forms from n inwards that have a place, when n has it.
func plainPath(s impl.Sheet, n, at int) []int {
	if !has(s.Forms[n], at) {
		return nil
	}
	for _, kid := range s.Forms[n].Kids {
		if has(s.Forms[kid], at) {
			return append([]int{n}, plainPath(s, kid, at)...)
		}
	}
	return []int{n}
}

func checkPath(t *testing.T, s impl.Sheet, at int, want ...int) {
	t.Helper()
	if got := impl.Path(s, at); !slices.Equal(got, want) {
		t.Errorf("Path(%s, %d): %v, not %v", shortly(s), at, got, want)
	}
}

// pathSheet: `{ x }` read as a throw of x below two blocks, with these places: the text, the block, the throw, the name, another throw, its name.
func pathSheet(text, block, throw, name, other, otherName [2]int) impl.Sheet {
	at := func(p [2]int, f impl.Form) impl.Form {
		f.From, f.To = p[0], p[1]
		return f
	}
	return impl.Sheet{Forms: []impl.Form{
		at(name, impl.Form{Kind: impl.EName, Text: "x"}),
		at(throw, impl.Form{Kind: impl.SThrow, Kids: []int{0}}),
		at(otherName, impl.Form{Kind: impl.EName, Text: "y"}),
		at(other, impl.Form{Kind: impl.SThrow, Kids: []int{2}}),
		at(block, impl.Form{Kind: impl.SBlock, Kids: []int{1, 3}}),
		at(text, impl.Form{Kind: impl.SBlock, Kids: []int{4}}),
	}}
}

// P2: a form has the places from From to the one ahead of To.
func TestPathEdges(t *testing.T) {
	s := pathSheet([2]int{1, 20}, [2]int{2, 18}, [2]int{4, 8}, [2]int{6, 7}, [2]int{10, 14}, [2]int{12, 13})
	for at, want := range map[int][]int{
		math.MinInt: nil, -1: nil, 0: nil, 1: {5}, 2: {5, 4}, 3: {5, 4}, 4: {5, 4, 1}, 5: {5, 4, 1}, 6: {5, 4, 1, 0}, 7: {5, 4, 1}, 8: {5, 4}, 9: {5, 4},
		10: {5, 4, 3}, 12: {5, 4, 3, 2}, 13: {5, 4, 3}, 14: {5, 4}, 17: {5, 4}, 18: {5}, 19: {5}, 20: nil, 21: nil, math.MaxInt: nil,
	} {
		checkPath(t, s, at, want...)
	}
	great := pathSheet([2]int{0, math.MaxInt}, [2]int{math.MaxInt - 1, math.MaxInt}, [2]int{math.MaxInt, math.MaxInt}, [2]int{}, [2]int{}, [2]int{})
	checkPath(t, great, math.MaxInt-2, 5)
	checkPath(t, great, math.MaxInt-1, 5, 4)
	checkPath(t, great, math.MaxInt)
	checkPath(t, impl.Sheet{Forms: []impl.Form{{Kind: impl.SBlock}}}, 0)
	checkPath(t, impl.Sheet{Forms: []impl.Form{{Kind: impl.SBlock, To: 1}}}, 0, 0)
}

// P2: of two kids that have a place the first comes next; what stands in a form that has it not is not looked at.
func TestPathOverlaps(t *testing.T) {
	wide := [2]int{0, 9}
	checkPath(t, pathSheet(wide, wide, wide, wide, wide, wide), 5, 5, 4, 1, 0)
	checkPath(t, pathSheet(wide, wide, [2]int{0, 5}, wide, wide, wide), 5, 5, 4, 3, 2)
	checkPath(t, pathSheet(wide, wide, [2]int{0, 6}, [2]int{}, [2]int{2, 9}, wide), 5, 5, 4, 1)
	checkPath(t, pathSheet(wide, [2]int{}, wide, wide, wide, wide), 5, 5)
	checkPath(t, pathSheet([2]int{6, 9}, wide, wide, wide, wide, wide), 5)
	checkPath(t, pathSheet([2]int{4, 6}, [2]int{0, 90}, [2]int{5, 70}, [2]int{}, wide, wide), 5, 5, 4, 1)
	checkPath(t, pathSheet(wide, wide, [2]int{5, 5}, wide, [2]int{}, wide), 5, 5, 4)
}

// P2: sheets by chance, whose places are such too; nothing of those that are not sound.
func TestPathByChance(t *testing.T) {
	r := rand.New(rand.NewSource(3))
	for _, s := range someSheets(1500) {
		s.Forms[len(s.Forms)-1].From, s.Forms[len(s.Forms)-1].To = r.Intn(3), 5+r.Intn(20)
		for at := -1; at <= 25; at++ {
			checkPath(t, s, at, plainPath(s, len(s.Forms)-1, at)...)
		}
		bad := copiedSheet(s)
		spoilSheet(r, &bad)
		if plainSheetFault(bad) != (impl.SheetFault{}) {
			for at := -1; at <= 25; at += 2 {
				checkPath(t, bad, at)
			}
		}
	}
}

// P2: Path has nothing of a sheet with a fault of any code.
func TestPathUnsound(t *testing.T) {
	wide := func(s impl.Sheet) impl.Sheet {
		for n := range s.Forms {
			s.Forms[n].To = 9
		}
		return s
	}
	checkPath(t, wide(callSheet()), 5, 8, 6, 5, 0)
	checkPath(t, wide(oddSheet()), 5)
	checkPath(t, impl.Sheet{}, 0)
	checkPath(t, wide(wideSheet(3001)), 5)
	checkPath(t, wide(deepSheet(101)), 5)
	for _, n := range []int{0, 3, 8} {
		s := wide(callSheet())
		s.Forms[n].Line = -1
		checkPath(t, s, 5)
	}
	order := wide(callSheet())
	order.Forms[3].Kids = []int{2, 1}
	checkPath(t, order, 5)
	loop := wide(callSheet())
	loop.Forms[8].Kids = []int{8}
	checkPath(t, loop, 5)
}
