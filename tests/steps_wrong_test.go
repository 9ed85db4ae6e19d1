package tests

import (
	"slices"
	"strings"
	"testing"

	"loop.example/heddle/impl"
)

func checkNotRun(t *testing.T, told string, c impl.Code, in impl.Input) {
	t.Helper()
	before := codeTold(c)
	if r := impl.RunCode(c, in); !sameReport(r, impl.Report{Code: 3}) {
		t.Errorf("%s: %+v", told, r)
	}
	for _, k := range []int{-1, 0, 1} {
		if v := impl.LookCode(c, in, k); !sameView(v, impl.View{}) {
			t.Errorf("%s at %d: %+v", told, k, v)
		}
	}
	if codeTold(c) != before {
		t.Errorf("%s: the code has changed", told)
	}
}

// P5: a code that is not verified is not run: one of the wrong shape, and one for each code of CheckCode above those.
func TestStepsOfWrongCodes(t *testing.T) {
	for told, c := range wrongShapes() {
		checkNotRun(t, told, c, plenty())
	}
	for told, fault := range map[string]impl.CodeFault{
		"line 1; move 0 1; list 2; return 2":                                              {Code: 10, At: 1},
		"line 1; list 0; throw 0":                                                         {Code: 10, At: 2},
		"line 1; leave; list 0; return 0":                                                 {Code: 11, At: 1},
		"line 1; try @h 1; scope 0; list 0; return 0; h: throw 1":                         {Code: 11, At: 2},
		"line 1; const 0 7; try @h 1; throw ~0; h: throw 1":                               {Code: 12, At: 3},
		"line 1; const 0 7; if 0 @e; list 1; jump @e; e: list 1; return 1":                {Code: 13, At: 5},
		"line 1; const 0 7; scope 0; if 0 @e; leave; e: list 1; return 1":                 {Code: 13, At: 5},
		"line 1; b: at 1; jump @b":                                                        {Code: 14, At: 1},
		"line 1; const 0 7; const 1 7; const 2 7; for 0; b: fornext 0 @b; throw 0":        {Code: 14, At: 5},
		"line 1; b: try @b 0; throw 0":                                                    {Code: 13, At: 1},
		"line 1; const 0 1; b: try @h 0; throw 0; h: drop 1; jump @b":                     {Code: 14, At: 2},
		"line 1; const 0 1; const 1 1; b: eachnext 0 @b 2; throw 0":                       {Code: 14, At: 3},
		"line 1; const 0 1; const 1 1; list 2; b: eachnext 0 @b 2; drop 0; throw 1":       {Code: 14, At: 4},
		"line 1; list 0; jump @e; b: list 0; e: return 0; jump @b":                        {},
		"line 1; list 0; jump @e; b: const 0 nil; line 1; e: return 0; tick; jump @b":     {},
		"line 1; list 0; const 1 nil; if 1 @b; return 0; b: const 0 nil; drop 0; throw 1": {},
	} {
		c := stepsOf(told)
		if got := impl.CheckCode(c); got != fault {
			t.Errorf("%s: %v, want %v", told, got, fault)
		}
		if fault.Code > 0 {
			checkNotRun(t, told, c, plenty())
		} else if r := ranCode(t, told, c, plenty()); r.Code != 0 {
			t.Errorf("%s: %+v", told, r)
		}
	}
}

// P5: an input that is not valid is not run, at both ends of each allowance and beyond.
func TestStepsOfWrongInputs(t *testing.T) {
	c := stepsOf("line 1; list 0; return 0")
	texts := func(count, length int) []string { return slices.Repeat([]string{strings.Repeat("x", length)}, count) }
	for _, x := range []struct {
		in   impl.Input
		code int
	}{
		{impl.Input{}, 3},
		{impl.Input{Depth: 1}, 2},
		{impl.Input{Ticks: 1, Depth: 1}, 0},
		{impl.Input{Ticks: 5000, Depth: 60, Cells: 20000}, 0},
		{impl.Input{Ticks: 5001, Depth: 60, Cells: 20000}, 3},
		{impl.Input{Ticks: 5000, Depth: 61, Cells: 20000}, 3},
		{impl.Input{Ticks: 5000, Depth: 60, Cells: 20001}, 3},
		{impl.Input{Ticks: -1, Depth: 1}, 3},
		{impl.Input{Ticks: 1, Depth: 0}, 3},
		{impl.Input{Ticks: 1, Depth: 1, Cells: -1}, 3},
		{impl.Input{Ticks: 1, Depth: 1, Args: texts(200, 4000), Lines: texts(200, 4000)}, 0},
		{impl.Input{Ticks: 1, Depth: 1, Args: texts(201, 0)}, 3},
		{impl.Input{Ticks: 1, Depth: 1, Lines: texts(201, 0)}, 3},
		{impl.Input{Ticks: 1, Depth: 1, Args: texts(1, 4001)}, 3},
		{impl.Input{Ticks: 1, Depth: 1, Lines: texts(1, 4001)}, 3},
	} {
		if x.code == 3 {
			checkNotRun(t, shortly(x.in), c, x.in)
			continue
		}
		r := ranCode(t, shortly(x.in), c, x.in)
		if r.Code != x.code || impl.LookCode(c, x.in, 0).Ok != (x.code == 0) {
			t.Errorf("%s: %+v", shortly(x.in), r)
		}
	}
	checkNotRun(t, "both", impl.Code{}, impl.Input{})
}
