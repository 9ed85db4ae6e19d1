package tests

import (
	"fmt"
	"slices"
	"strings"
	"testing"

	"loop.example/heddle/impl"
)

// P7: RunLoom has the report of RunCode, at every pace, with each allowance at its ends and between them.
func TestLoomAllowances(t *testing.T) {
	for told, c := range loomCodes(t) {
		whole := impl.RunCode(c, loomInput())
		if whole.Code != 0 {
			t.Errorf("%s: %s", told, reportTold(whole))
		}
		var inputs []impl.Input
		for n := range 12 {
			for _, ticks := range []int{n * whole.Ticks / 11, whole.Ticks - 1, whole.Ticks + 1} {
				in := loomInput()
				in.Ticks = ticks
				inputs = append(inputs, in)
			}
			in := loomInput()
			in.Depth = 1 + n
			inputs = append(inputs, in)
			in = loomInput()
			in.Cells = n * whole.Made / 11
			inputs = append(inputs, in)
		}
		for i, in := range inputs {
			want := impl.RunCode(c, in)
			for _, pace := range []int{0, 1 + i%5, impl.MaxPace} {
				if got := impl.RunLoom(c, in, pace); !sameReport(got, want) {
					t.Fatalf("%s, %+v at pace %d: %s, want %s", told, in, pace, reportTold(got), reportTold(want))
				}
			}
		}
	}
}

// P7: what these texts say, so that the machine's report is not held against another of the program's own alone.
func TestLoomSays(t *testing.T) {
	t.Parallel()
	codes := loomCodes(t)
	for name, want := range map[string]string{
		"lists":  "156 12|0",
		"errors": "out 1|main:6|out 2|main:5|out 3|main:6|out 4|main:5|out 5|main:6|5 19",
		"last":   "4 7|4 7 0",
		"tasks":  "true 1 table|true 1 table|true 2 table|true 2 table|true 3 table|gone 2|true end|gone 3|true end|gone 9|true|3",
		"kinds":  "2 other false 7 1 2|4 other true 7 2 4|8 other false 7 3 8|16 other false 7 4 16|32 other false 7 5 32|64 other false 7 6 64",
	} {
		for _, c := range []impl.Code{codes[name], codes[name+" tidied"]} {
			for pace := range 4 {
				if got := strings.Join(saysOf(impl.RunLoom(c, loomInput(), pace)), "|"); got != want {
					t.Errorf("%s at pace %d: %s, want %s", name, pace, got, want)
				}
			}
			checkLoom(t, name, c, loomInput(), 0, 0, 1, 2, 7)
		}
	}
}

// P7: MaxRecs records, and one more is due.
func TestLoomRecords(t *testing.T) {
	t.Parallel()
	code := func(more string) impl.Code {
		text := "const 0 1; const 1 50; const 2 1; for 0; t: fortest 0 @e; tick"
		for i := range 1000 {
			text += fmt.Sprintf("; const 3 7; try @h%d 3; throw 3; h%d: drop 3; drop 4", i, i)
		}
		return stepsOf(text + "; fornext 0 @t; e: tick; " + more + "give 3 1")
	}
	says := "const 3 print; list 4; call 3 3 4; drop 3; "
	for more, x := range map[string]struct{ code, ticks, peak int }{"": {0, 51, 0}, says: {2, 52, 0}, says + says: {2, 52, 0}, "const 3 7; index 3 3 3; drop 3; ": {2, 51, 1}} {
		c := code(more)
		for _, pace := range []int{0, 1} {
			r := impl.RunLoom(c, plenty(), pace)
			if r.Code != x.code || len(r.Recs) != impl.MaxRecs || r.Ticks != x.ticks || (x.code == 0) != slices.Equal(r.Vals, []string{"1"}) || !sameReport(r, impl.RunCode(c, plenty())) {
				t.Errorf("%s at pace %d: %d records, %+v", more, pace, len(r.Recs), withoutRecs(r))
			}
			// The table of an error that could not be told was there for a moment, ahead of no move.
			if p, most := impl.Peak(c, plenty(), pace), impl.Most(c, plenty()); p != x.peak || most != 0 {
				t.Errorf("%s at pace %d: Peak %d, Most %d", more, pace, p, most)
			}
		}
		if last := impl.LookLoom(c, plenty(), 1, impl.MaxRecs-1); !last.Ok || impl.LookLoom(c, plenty(), 1, impl.MaxRecs).Ok {
			t.Errorf("%s: %+v", more, last)
		}
		over := impl.Stand(c, plenty(), 0, impl.Moves(c, plenty()))
		if !over.Over || !sameReport(over.Rep, impl.RunLoom(c, plenty(), 0)) || over.Births+len(over.Slots)+len(over.Tasks) > 0 {
			t.Errorf("%s: %+v", more, withoutRecs(over.Rep))
		}
	}
}

// P7: LookLoom sees what LookCode sees, at each record and beside them, at every pace.
func TestLoomLooks(t *testing.T) {
	for told, c := range loomCodes(t) {
		count := len(impl.RunCode(c, loomInput()).Recs)
		for k := range count {
			want := impl.LookCode(c, loomInput(), k)
			if got := impl.LookLoom(c, loomInput(), k%4, k); !want.Ok || !sameView(got, want) {
				t.Fatalf("%s at pace %d, record %d: %s, want %s", told, k%4, k, viewTold(got), viewTold(want))
			}
		}
		for _, k := range []int{-1, -99, count, count + 1, 1 << 60} {
			if v := impl.LookLoom(c, loomInput(), 2, k); !sameView(v, impl.View{}) {
				t.Errorf("%s at record %d: %s", told, k, viewTold(v))
			}
		}
	}
	text := `proto main
line 1; fn 0 f; const 1 5; try @h 2; do 2 r0 r1; return 2; h: line 9; say 4 r1; give 4
var n 1
var e 2
proto f line=3 params=1
scope 1; const 1 "a"; box 1 ~1; keep 2; const 2 "b"; later 3 print r2; line 4; throw 2
var p 0
var boxed 1
var late 2 5 10`
	var got []string
	c := stepsOf(text)
	for k, rec := range ranCode(t, text, c, plenty()).Recs {
		got = append(got, recTold(rec)+" / "+viewTold(impl.LookLoom(c, plenty(), 1, k)))
	}
	checkShown(t, text, got, []string{
		"line 0.0:1 / task 0, 0:1",
		"call 0.1:3 f / task 0, 1:0 p=5, 0:1 n=5",
		"line 0.1:4 / task 0, 1:4 p=5 boxed=a late=b, 0:1 n=5",
		"throw 0.1:4 b / task 0, 1:4 p=5 boxed=a, 0:1 n=5",
		"print 0.1:0 b / task 0, 1:0 p=5 boxed=a, 0:1 n=5",
		"back 0.1:0 error / task 0, 1:0 p=5, 0:1 n=5",
		"catch 0.0:1 b / task 0, 0:1 n=5",
		"line 0.0:9 / task 0, 0:9 n=5 e=b",
		"print 0.0:9 5 / task 0, 0:9 n=5 e=b",
	})
	// Without parameters nothing is seen at the end of a call, though its registers hold something still.
	text = "proto main\nfn 0 f; do 1 r0; return 1\nproto f\nconst 0 5; line 2; list 1; return 1\nvar v 0 1 4"
	c, got = stepsOf(text), nil
	for k, rec := range ranCode(t, text, c, plenty()).Recs {
		got = append(got, recTold(rec)+" / "+viewTold(impl.LookLoom(c, plenty(), 1, k)))
	}
	checkShown(t, text, got, []string{"call 0.1:0 f / task 0, 1:0, 0:0", "line 0.1:2 / task 0, 1:2 v=5, 0:0", "back 0.1:0 / task 0, 1:0, 0:0"})
}

// P7: nothing that was given is changed, answers share nothing with it or with one another, and the same arguments have the same answer.
func TestLoomsShareNothing(t *testing.T) {
	text := `proto main rest
fn 1 outer; one 2 task r1; scope 3; later 3 print "kept" r1; table 3; const 4 "key"; const 5 "val"; raw 3 4 5; const 4 "key"; index 4 3 ~4; do 5 resume r2 "given" "more"; do 6 read; join 6 ~5; const 5 "x"; box 5 ~5; line 7; throw 3
var name 3
proto outer line=3 params=1 rest
try @h 2; copy 2 1; scope 3; later 3 read "in" "task"; do 3 yield r0 "out"; return 3; h: throw 2
var param 0`
	c := stepsOf(text)
	in := plenty()
	in.Args, in.Lines = []string{"argument", "other"}, []string{"line one", "line two"}
	before := codeTold(c)
	for n := range impl.Moves(c, in) + 2 {
		for _, pace := range []int{0, 1} {
			for what, answer := range map[string]func() impl.Machine{
				"Stand": func() impl.Machine { return impl.Stand(c, in, pace, n) },
				"Canon": func() impl.Machine { return impl.Canon(c, in, pace, n) },
			} {
				one, two := answer(), answer()
				told := machineTold(one)
				if told != machineTold(two) {
					t.Fatalf("%s behind %d: %s, then %s", what, n, told, machineTold(two))
				}
				checkOwnMemory(t, fmt.Sprint(what, " behind ", n), c, in, one)
				overwriteMachine(two)
				if machineTold(one) != told || codeTold(c) != before || machineTold(answer()) != told {
					t.Fatalf("%s behind %d: shares memory", what, n)
				}
			}
			alive := impl.Alive(c, in, pace, n)
			again := impl.Alive(c, in, pace, n)
			for i := range again[:cap(again)] {
				again[:cap(again)][i] = false
			}
			if !slices.Equal(alive, impl.Alive(c, in, pace, n)) {
				t.Fatalf("Alive behind %d", n)
			}
		}
	}
	r := impl.RunLoom(c, in, 1)
	checkOwnTexts(t, "RunLoom", c, in, append(recTexts(r.Recs), append(r.Vals, r.Error, r.Trace)...))
	for k := range r.Recs {
		var texts []string
		for _, o := range impl.LookLoom(c, in, 1, k).Calls {
			for _, s := range o.Vars {
				texts = append(texts, s.Name, s.Text)
			}
		}
		checkOwnTexts(t, "LookLoom", c, in, texts)
	}
	if !slices.Equal(in.Args, []string{"argument", "other"}) || !slices.Equal(in.Lines, []string{"line one", "line two"}) {
		t.Error("the input has changed")
	}
}

func recTexts(recs []impl.Rec) []string {
	var texts []string
	for _, r := range recs {
		texts = append(texts, r.Text)
	}
	return texts
}

// givenTexts: all texts of a code and an input.
func givenTexts(c impl.Code, in impl.Input) []string {
	return append(append(codeTexts(c), in.Args...), in.Lines...)
}

func checkOwnTexts(t *testing.T, told string, c impl.Code, in impl.Input, texts []string) {
	t.Helper()
	if sharedTexts(givenTexts(c, in), texts) {
		t.Errorf("%s: shares a text with what was given", told)
	}
}

// checkOwnMemory: no two lists of a machine share memory, up to their capacity, and no text is one that was given.
func checkOwnMemory(t *testing.T, told string, c impl.Code, in impl.Input, m impl.Machine) {
	t.Helper()
	owners := map[any]int{}
	var texts []string
	lists := machineLists(m)
	for i, list := range lists {
		for _, cell := range list.cells {
			if at, ok := owners[cell]; ok && at != i {
				t.Errorf("%s: two lists share memory", told)
			}
			owners[cell] = i
		}
		texts = append(texts, list.texts...)
	}
	checkOwnTexts(t, told, c, in, append(texts, append(recTexts(m.Rep.Recs), m.Rep.Vals...)...))
}

// machineList: where the elements of a list stand, and the texts in them.
type machineList struct {
	cells []any
	texts []string
}

func cellsOf[T any](list []T, texts ...string) machineList {
	l := machineList{texts: texts}
	list = list[:cap(list)]
	for i := range list {
		l.cells = append(l.cells, &list[i])
	}
	return l
}

func valueList(vals []impl.Value) machineList {
	l := cellsOf(vals)
	for _, v := range vals {
		l.texts = append(l.texts, v.Str)
	}
	return l
}

func machineLists(m impl.Machine) []machineList {
	lists := []machineList{cellsOf(m.Slots), cellsOf(m.Caches), cellsOf(m.Tasks), valueList(m.Got), valueList(m.Way.Vals), cellsOf(m.Rep.Recs), cellsOf(m.Rep.Vals)}
	for _, s := range m.Slots {
		lists = append(lists, cellsOf(s.Ups), cellsOf(s.Table.Pairs, s.Value.Str))
		for _, p := range s.Table.Pairs {
			lists = append(lists, machineList{texts: []string{p.Key.Str, p.Val.Str}})
		}
	}
	for _, k := range m.Tasks {
		lists = append(lists, cellsOf(k.Frames), valueList(k.Dropped))
		for _, f := range k.Frames {
			lists = append(lists, valueList(f.Vals), cellsOf(f.Regs), cellsOf(f.Fences), valueList(f.Way.Vals))
			for _, r := range f.Regs {
				lists = append(lists, valueList(r.List), machineList{texts: []string{r.Value.Str}})
			}
			for _, g := range f.Fences {
				lists = append(lists, cellsOf(g.Defers))
				for _, d := range g.Defers {
					lists = append(lists, valueList(d.Vals))
				}
			}
		}
	}
	return lists
}

// overwriteMachine changes all that the lists of a machine hold, up to their capacity, from the inside.
func overwriteMachine(m impl.Machine) {
	spoil := func(vals []impl.Value) {
		for i := range vals[:cap(vals)] {
			vals[:cap(vals)][i] = vStr("spoilt")
		}
	}
	spoil(m.Got)
	spoil(m.Way.Vals)
	for _, s := range m.Slots {
		for i := range s.Ups[:cap(s.Ups)] {
			s.Ups[:cap(s.Ups)][i] = -77
		}
		clear(s.Table.Pairs[:cap(s.Table.Pairs)])
	}
	for _, k := range m.Tasks {
		spoil(k.Dropped)
		for _, f := range k.Frames {
			spoil(f.Vals)
			spoil(f.Way.Vals)
			for _, r := range f.Regs {
				spoil(r.List)
			}
			for _, g := range f.Fences {
				for _, d := range g.Defers {
					spoil(d.Vals)
				}
				clear(g.Defers[:cap(g.Defers)])
			}
			clear(f.Regs[:cap(f.Regs)])
			clear(f.Fences[:cap(f.Fences)])
		}
		clear(k.Frames[:cap(k.Frames)])
	}
	clear(m.Slots[:cap(m.Slots)])
	clear(m.Tasks[:cap(m.Tasks)])
	clear(m.Caches[:cap(m.Caches)])
	clear(m.Rep.Recs[:cap(m.Rep.Recs)])
	clear(m.Rep.Vals[:cap(m.Rep.Vals)])
}
