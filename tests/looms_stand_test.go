package tests

import (
	"math"
	"slices"
	"strings"
	"testing"

	"loop.example/heddle/impl"
)

// checkStood: the machine of a code as it stands behind moves, told by machineTold without the indent of the text that is wanted.
func checkStood(t *testing.T, text string, in impl.Input, pace int, wants map[int]string) {
	t.Helper()
	c := stepsOf(text)
	ranCode(t, text, c, in)
	for n, want := range wants {
		want = strings.TrimSpace(strings.ReplaceAll(want, "\n\t\t", "\n"))
		if got := machineTold(impl.Stand(c, in, pace, n)); got != want {
			t.Errorf("%s\nbehind %d at pace %d:\n%s\nwant\n%s", text, n, pace, got, want)
		}
	}
}

// P7: the machine that has done nothing yet, whole: with a rest and without, with and without Args, with caches, at the greatest pace.
func TestLoomBegin(t *testing.T) {
	in := impl.Input{Args: []string{"x", "y"}, Lines: []string{"l"}, Ticks: 5, Depth: 3, Cells: 4}
	list := func(words ...string) impl.Reg {
		r := impl.Reg{Type: impl.TList}
		for _, w := range words {
			r.List = append(r.List, vStr(w))
		}
		return r
	}
	machine := func(pace, caches int, regs ...impl.Reg) impl.Machine {
		return impl.Machine{Pace: pace, Caches: make([]impl.Cache, caches), Tasks: []impl.Task{{State: 2, Waiter: -1, Frames: []impl.Frame{{Kind: 1, Self: -1, Limit: -1, Regs: regs}}}}}
	}
	for _, x := range []struct {
		text string
		args []string
		pace int
		want impl.Machine
	}{
		{"proto main rest regs=2\nreturn ~0", in.Args, 7, machine(7, 0, list("x", "y"), impl.Reg{})},
		{"proto main rest regs=2\nreturn ~0", nil, 0, machine(0, 0, list(), impl.Reg{})},
		{"proto main regs=2\nlist 1; return ~1", in.Args, impl.MaxPace, machine(impl.MaxPace, 0, impl.Reg{}, impl.Reg{})},
		{"proto main rest line=9\nreturn ~0", []string{""}, 1, machine(1, 0, list(""))},
		{"table 0; const 1 \"a\"; index 1 0 ~1; const 2 \"b\"; index 2 0 ~2; list 3; return 3", nil, 1, machine(1, 2, impl.Reg{}, impl.Reg{}, impl.Reg{}, impl.Reg{})},
	} {
		in.Args = x.args
		c := stepsOf(x.text)
		for told, got := range map[string]impl.Machine{"Begin": impl.Begin(c, in, x.pace), "Stand": impl.Stand(c, in, x.pace, 0)} {
			if machineTold(got) != machineTold(x.want) {
				t.Errorf("%s: %s\n%s\nwant\n%s", x.text, told, machineTold(got), machineTold(x.want))
			}
		}
	}
	// As few registers as there can be: a text of none.
	c := impl.Code{Protos: []impl.Proto{{Ins: []impl.Ins{{Op: impl.ITick}, {Op: impl.IJump}}}}}
	if got := machineTold(impl.Begin(c, plenty(), 3)); got != "pace 3 due 0 births 0 vers 0 moves 0\ntask 0 running\n  code at 0\nrep gives ticks 0 made 0" {
		t.Error(got)
	}
}

// checkNoLoom: nothing is told of a machine that there is not.
func checkNoLoom(t *testing.T, told string, c impl.Code, in impl.Input, pace int) {
	t.Helper()
	before := codeTold(c)
	for what, m := range map[string]impl.Machine{"Begin": impl.Begin(c, in, pace), "Stand": impl.Stand(c, in, pace, 0), "Stand 9": impl.Stand(c, in, pace, 9), "Canon": impl.Canon(c, in, pace, 0), "Canon 9": impl.Canon(c, in, pace, 9)} {
		if got := machineTold(m); got != "zero" {
			t.Errorf("%s: %s\n%s", told, what, got)
		}
	}
	if r := impl.RunLoom(c, in, pace); !sameReport(r, impl.Report{Code: 3}) {
		t.Errorf("%s: %s", told, reportTold(r))
	}
	for _, n := range []int{-1, 0, 1, 100} {
		if a, v := impl.Alive(c, in, pace, n), impl.LookLoom(c, in, pace, n); len(a) > 0 || !sameView(v, impl.View{}) {
			t.Errorf("%s at %d: %v %+v", told, n, a, v)
		}
	}
	if p := impl.Peak(c, in, pace); p != 0 {
		t.Errorf("%s: Peak %d", told, p)
	}
	if codeTold(c) != before {
		t.Errorf("%s: the code has changed", told)
	}
}

// P7: no machine for a code that is not verified, an input that is not valid, a pace beyond its ends.
func TestNoLoom(t *testing.T) {
	none := func(told string, c impl.Code, in impl.Input) {
		t.Helper()
		for _, pace := range []int{0, 1, impl.MaxPace} {
			checkNoLoom(t, told, c, in, pace)
		}
		if m, n := impl.Moves(c, in), impl.Most(c, in); m != 0 || n != 0 {
			t.Errorf("%s: %d moves, Most %d", told, m, n)
		}
	}
	for told, c := range notVerified(t) {
		none(told, c, plenty())
	}
	for told, c := range wrongShapes() {
		none(told, c, plenty())
	}
	none("the text with parameters", impl.Code{Protos: []impl.Proto{{Params: 1, Regs: 2, Ins: insOf("list 1; return -2")}}}, plenty())
	c := stepsOf("table 0; line 1; give 1")
	texts := func(count, length int) []string { return slices.Repeat([]string{strings.Repeat("x", length)}, count) }
	for _, x := range []struct {
		in impl.Input
		ok bool
	}{
		{impl.Input{}, false},
		{impl.Input{Depth: 1}, true},
		{impl.Input{Ticks: 5000, Depth: 60, Cells: 20000}, true},
		{impl.Input{Ticks: 5001, Depth: 60, Cells: 20000}, false},
		{impl.Input{Ticks: 5000, Depth: 61, Cells: 20000}, false},
		{impl.Input{Ticks: 5000, Depth: 60, Cells: 20001}, false},
		{impl.Input{Ticks: -1, Depth: 1}, false},
		{impl.Input{Depth: 1, Cells: -1}, false},
		{impl.Input{Depth: 1, Args: texts(200, 65536), Lines: texts(200, 1)}, true},
		{impl.Input{Depth: 1, Args: texts(201, 1)}, false},
		{impl.Input{Depth: 1, Lines: texts(201, 1)}, false},
		{impl.Input{Depth: 1, Args: texts(1, 65537)}, false},
		{impl.Input{Depth: 1, Lines: texts(1, 65537)}, false},
	} {
		x.ok = x.ok && impl.InputOk(x.in) // MaxStr is not said here
		if !x.ok {
			none("an input", c, x.in)
			continue
		}
		if m := impl.Begin(c, x.in, 0); len(m.Tasks) != 1 {
			t.Errorf("%+v: %s", x.in, machineTold(m))
		}
		for _, pace := range []int{-1, impl.MaxPace + 1, math.MinInt, math.MaxInt} {
			checkNoLoom(t, "a pace", c, x.in, pace)
		}
	}
}

// P7: Stand ahead of the first move, behind the last one, and behind all.
func TestLoomStandEnds(t *testing.T) {
	text := "table 0; line 3; list 1; add 1 0; return 1"
	c := stepsOf(text)
	if n := impl.Moves(c, plenty()); n != 7 {
		t.Fatal(n)
	}
	for _, pace := range []int{0, 2} {
		for _, n := range []int{-1, -2, math.MinInt} {
			if a := impl.Alive(c, plenty(), pace, n); len(a) > 0 {
				t.Error(a)
			}
			for what, m := range map[string]impl.Machine{"Stand": impl.Stand(c, plenty(), pace, n), "Canon": impl.Canon(c, plenty(), pace, n)} {
				if machineTold(m) != "zero" {
					t.Errorf("%s at %d: %s", what, n, machineTold(m))
				}
			}
		}
		over := impl.Machine{Pace: pace, Over: true, Moves: 7, Rep: impl.RunLoom(c, plenty(), pace)}
		for _, n := range []int{7, 8, 1000, math.MaxInt} {
			if got := machineTold(impl.Stand(c, plenty(), pace, n)); got != machineTold(over) {
				t.Errorf("at %d: %s", n, got)
			}
			canon := over
			canon.Pace = 0
			if got := machineTold(impl.Canon(c, plenty(), pace, n)); got != machineTold(canon) {
				t.Errorf("at %d: %s", n, got)
			}
			if a := impl.Alive(c, plenty(), pace, n); len(a) > 0 {
				t.Error(a)
			}
		}
	}
	checkStood(t, text, plenty(), 2, map[int]string{
		1: `
		pace 2 due 1 births 1 vers 1 moves 1 since 1
		0: table born 1 ver 1 of -1
		task 0 running
		  code at 1
		    value t0, nothing
		rep gives ticks 0 made 1`,
		5: `
		pace 2 due 1 births 1 vers 1 moves 5 since 1
		0: table born 1 ver 1 of -1
		task 0 running
		  code at 4 line 3 saved 3 leaving way return t0
		    value t0, list t0
		rep line 0.0:3; gives ticks 1 made 1`,
		6: `
		pace 2 due 1 births 1 vers 1 moves 6 since 1
		given t0
		0: table born 1 ver 1 of -1
		task 0 running
		rep line 0.0:3; gives ticks 1 made 1`,
		7: `
		pace 2 due 0 births 0 vers 0 moves 7 over
		rep line 0.0:3; gives table ticks 1 made 1`,
	})
}

// P7: boxes, fns with their Ups, calls with parameters and a rest, lines that are read.
func TestLoomStandCalls(t *testing.T) {
	in := impl.Input{Args: []string{"a", "b"}, Lines: []string{"l"}, Ticks: 100, Depth: 9, Cells: 50}
	checkStood(t, `proto main rest
const 1 7; box 1 ~1; fn 2 f; one 3 read; line 4; copy 4 0; call 4 2 ~4; return 4
proto f line=2 params=1 rest ups=r1
upput 0 0; fn 2 g; list 3; add 3 ~2; return ~3
proto g ups=u0
upget 0 0; give 1 ~0`, in, 0, map[int]string{
		3: `
		pace 0 due 2 births 2 vers 0 moves 3 since 2
		0: box born 1 7
		1: fn born 2 proto 1 up 0
		task 0 running
		  code at 3
		    list "a" "b", box 0, value f1, nothing, nothing
		rep gives ticks 0 made 2`,
		11: `
		pace 0 due 2 births 2 vers 0 moves 11 read 1 since 2
		0: box born 1 "a"
		1: fn born 2 proto 1 up 0
		task 0 running
		  code at 9 line 4
		    list "a" "b", box 0, value f1, value "l", nothing
		  code proto 1 at 1 self 1
		    value "a", list "b", nothing, nothing
		rep line 0.0:4; call 0.1:2 f; gives ticks 3 made 2`,
		15: `
		pace 0 due 3 births 3 vers 0 moves 15 read 1 since 4
		0: box born 1 "a"
		1: fn born 2 proto 1 up 0
		2: fn born 3 proto 2 up 0
		task 0 running
		  code at 9 line 4
		    list "a" "b", box 0, value f1, value "l", nothing
		  code proto 1 at 4 self 1 leaving way return f2
		    value "a", list "b", nothing, nothing
		rep line 0.0:4; call 0.1:2 f; gives ticks 3 made 4`,
		16: `
		pace 0 due 3 births 3 vers 0 moves 16 read 1 since 4
		given f2
		0: box born 1 "a"
		1: fn born 2 proto 1 up 0
		2: fn born 3 proto 2 up 0
		task 0 running
		  code at 9 line 4
		    list "a" "b", box 0, value f1, value "l", nothing
		rep line 0.0:4; call 0.1:2 f; back 0.1:0; gives ticks 3 made 4`,
	})
	// Of two Ups the one that is asked for, from the inside and from further out.
	checkGives(t, `proto main
const 0 "a"; box 0 ~0; const 1 "b"; box 1 ~1; fn 2 f; do 3 r2; return 3
proto f ups=r0,r1
upget 0 1; upget 1 0; const 2 "c"; upput 1 2; fn 3 g; one 4 r3; give 5 r0 r1 r4
proto g ups=u1,u0
upget 0 0; upget 1 1; binary 0 join ~0 ~1; give 2 r0`, "gives b a ca")
	// Fewer and more arguments than parameters, with a rest and without.
	for head, calls := range map[string]map[string]string{
		"params=2":      {"": "value nil, value nil, nothing", "1": "value 1, value nil, nothing", "1 2": "value 1, value 2, nothing", "1 2 3": "value 1, value 2, nothing"},
		"params=2 rest": {"": "value nil, value nil, list", "1": "value 1, value nil, list", "1 2": "value 1, value 2, list", "1 2 3 nil": "value 1, value 2, list 3 nil"},
		"rest":          {"": "list, nothing, nothing", "1 2": "list 1 2, nothing, nothing"},
	} {
		for args, want := range calls {
			text := "proto main\nfn 0 f; do 1 r0 " + args + "; return 1\nproto f " + head + " regs=3\ntick; jump 0"
			c := stepsOf(text)
			if got := regsBehind(c, slices.Index(courseOf(c, impl.Input{Ticks: 9, Depth: 2, Cells: 9}), strings.Replace("cN c0", "N", map[int]string{0: "3", 1: "5", 2: "7", 3: "9", 4: "11"}[len(strings.Fields(args))], 1))); got != want {
				t.Errorf("%s: %s, want %s", text, got, want)
			}
		}
	}
}

// P7: tables: their pairs, kinds, and the numbers of their keys, by every way in which pairs come and go.
func TestLoomStandTables(t *testing.T) {
	text := `table 0; const 1 "k"; raw 0 1 1; table 2; one 3 setkind r0 r2; const 4 nil; raw 0 1 4; set 0 1 1; list 4; add 4 1; add 4 1; const 5 1; rawall 0 ~5 ~4; do 6 rawset r0 "k"; give 7`
	slots := map[int][]string{
		1:  {"0: table born 1 ver 1 of -1"},
		3:  {`0: table born 1 ver 2 of -1 turns 1 1:"k"="k"`},
		10: {`0: table born 1 ver 2 of 1 turns 1 1:"k"="k"`, "1: table born 2 ver 3 of -1"},
		12: {"0: table born 1 ver 4 of 1 turns 1", "1: table born 2 ver 3 of -1"},
		13: {`0: table born 1 ver 5 of 1 turns 2 2:"k"="k"`, "1: table born 2 ver 3 of -1"},
		18: {`0: table born 1 ver 7 of 1 turns 4 2:"k"="k" 3:1="k" 4:2="k"`, "1: table born 2 ver 3 of -1"},
		24: {`0: table born 1 ver 8 of 1 turns 4 3:1="k" 4:2="k"`, "1: table born 2 ver 3 of -1"},
	}
	for n, want := range slots {
		got := strings.Join(slotLines(impl.Stand(stepsOf(text), plenty(), 0, n)), "\n")
		if got != strings.Join(want, "\n") {
			t.Errorf("behind %d: %s", n, got)
		}
	}
	// A collect takes pairs out of two tables, the one that was made first ahead, each once; a table that loses none stays as it was.
	weak := `table 0; const 1 "weak"; const 2 "kv"; raw 0 1 2; table 3; table 4; table 5; one 6 setkind r5 r0; one 6 setkind r3 r0; one 6 setkind r4 r0; drop 6; ` +
		`const 1 1; raw 4 1 1; table 6; raw 5 6 1; const 2 2; table 6; raw 5 2 ~6; table 6; raw 3 ~6 2; raw 5 1 2; tick; one 6 collect; give 7`
	c := stepsOf(weak)
	begun := slices.IndexFunc(courseOf(c, plenty()), func(moment string) bool { return strings.HasSuffix(moment, "k0") })
	before, behind := slotLines(impl.Stand(c, plenty(), 0, begun)), slotLines(impl.Stand(c, plenty(), 0, begun+1))
	if got := strings.Join(before[:4], "\n"); got != "0: table born 1 ver 2 of -1 turns 1 1:\"weak\"=\"kv\"\n1: table born 2 ver 12 of 0 turns 1 1:t6=2\n2: table born 3 ver 6 of 0 turns 1 1:1=1\n3: table born 4 ver 13 of 0 turns 3 1:t4=1 2:2=t5 3:1=2" {
		t.Error(got)
	}
	if got := strings.Join(behind[:4], "\n"); got != "0: table born 1 ver 2 of -1 turns 1 1:\"weak\"=\"kv\"\n1: table born 2 ver 14 of 0 turns 1\n2: table born 3 ver 6 of 0 turns 1 1:1=1\n3: table born 4 ver 15 of 0 turns 3 3:1=2" {
		t.Error(got)
	}
	ranCode(t, weak, c, plenty())
	// One that is not reached itself stays as it was, though it wants a last word and is told it.
	left := "proto main\nfn 0 f; table 1; const 2 \"weak\"; const 3 \"v\"; raw 1 2 3; const 2 \"last\"; raw 1 2 ~0; table 0; table 3; raw 0 2 ~3; one 3 setkind ~0 ~1; drop 3; do 0 collect; return 0\nproto f params=1\ngive 1"
	c = stepsOf(left)
	begun = slices.IndexFunc(courseOf(c, plenty()), func(moment string) bool { return strings.HasSuffix(moment, "K1 c0") })
	if got := slotLines(impl.Stand(c, plenty(), 1, begun)); got[2] != `2: table born 3 ver 6 of 1 turns 1 1:"last"=t3` || got[3] != "3: table born 4 ver 5 of -1" {
		t.Error(got)
	}
	ranCode(t, left, c, plenty())
}

func slotLines(m impl.Machine) []string {
	var lines []string
	for _, line := range strings.Split(machineTold(m), "\n") {
		if line != "" && line[0] >= '0' && line[0] <= '9' {
			lines = append(lines, line)
		}
	}
	return lines
}

// P7: guards of both kinds with what they keep; an error on its way through them, out of a defer, up to what catches it; an ILeave.
func TestLoomStandGuards(t *testing.T) {
	text := `line 2; const 0 1; try @h 1; at 3; scope 1; const 1 5; keep 2; at 4; later 2 print r1; at 6; later 2 7; at 5; const 2 "x"; throw 2; h: at 9; scope 0; later 3 read; leave; give 3`
	checkStood(t, text, plenty(), 0, map[int]string{
		18: `
		pace 0 due 0 births 0 vers 0 moves 18
		task 0 running
		  code at 18 line 5
		    value 1, value 5, value "x", nothing, nothing
		    try keep 1 handler 19 line 2
		    scope keep 2 defer 4 print 5 defer 6 7
		rep line 0.0:2; gives ticks 1 made 0`,
		19: `
		pace 0 due 0 births 0 vers 0 moves 19
		way error "x" at main:5
		task 0 running
		  code at 18 line 5
		    value 1, value 5, value "x", nothing, nothing
		    try keep 1 handler 19 line 2
		    scope keep 2 defer 4 print 5 defer 6 7
		rep line 0.0:2; throw 0.0:5 x; gives ticks 1 made 0`,
		20: `
		pace 0 due 0 births 0 vers 0 moves 20
		task 0 running
		  code at 18 line 5 saved 5 leaving way error "x" at main:5
		    value 1, value 5, value "x", nothing, nothing
		    try keep 1 handler 19 line 2
		    scope keep 2 defer 4 print 5 defer 6 7
		rep line 0.0:2; throw 0.0:5 x; gives ticks 1 made 0`,
		21: `
		pace 0 due 1 births 1 vers 1 moves 21
		way error t0 at main:6
		0: table born 1 ver 1 of -1 turns 2 1:"code"=6 2:"line"=6
		task 0 running
		  code at 18 line 6 saved 5 limit 2 leaving way error "x" at main:5
		    value 1, value 5, nothing, nothing, nothing
		    try keep 1 handler 19 line 2
		    scope keep 2 defer 4 print 5
		rep line 0.0:2; throw 0.0:5 x; throw 0.0:6 error 6; gives ticks 2 made 0`,
		22: `
		pace 0 due 1 births 1 vers 1 moves 22
		0: table born 1 ver 1 of -1 turns 2 1:"code"=6 2:"line"=6
		task 0 running
		  code at 18 line 6 saved 5 limit 2 leaving way error t0 at main:6
		    value 1, value 5, nothing, nothing, nothing
		    try keep 1 handler 19 line 2
		    scope keep 2 defer 4 print 5
		rep line 0.0:2; throw 0.0:5 x; throw 0.0:6 error 6; gives ticks 2 made 0`,
		23: `
		pace 0 due 1 births 1 vers 1 moves 23
		given
		0: table born 1 ver 1 of -1 turns 2 1:"code"=6 2:"line"=6
		task 0 running
		  code at 18 line 4 saved 5 limit 2 leaving way error t0 at main:6
		    value 1, value 5, nothing, nothing, nothing
		    try keep 1 handler 19 line 2
		    scope keep 2
		rep line 0.0:2; throw 0.0:5 x; throw 0.0:6 error 6; print 0.0:4 5; gives ticks 3 made 0`,
		24: `
		pace 0 due 1 births 1 vers 1 moves 24
		0: table born 1 ver 1 of -1 turns 2 1:"code"=6 2:"line"=6
		task 0 running
		  code at 18 line 5 saved 5 limit 2 leaving way error t0 at main:6
		    value 1, value 5, nothing, nothing, nothing
		    try keep 1 handler 19 line 2
		rep line 0.0:2; throw 0.0:5 x; throw 0.0:6 error 6; print 0.0:4 5; gives ticks 3 made 0`,
		25: `
		pace 0 due 1 births 1 vers 1 moves 25
		0: table born 1 ver 1 of -1 turns 2 1:"code"=6 2:"line"=6
		task 0 running
		  code at 19 line 2
		    value 1, value t0, value "main:6", nothing, nothing
		rep line 0.0:2; throw 0.0:5 x; throw 0.0:6 error 6; print 0.0:4 5; catch 0.0:2 error 6; gives ticks 3 made 0`,
		31: `
		pace 0 due 1 births 1 vers 1 moves 31
		0: table born 1 ver 1 of -1 turns 2 1:"code"=6 2:"line"=6
		task 0 running
		  code at 24 line 9 saved 9 leaving one
		    value 1, value t0, value "main:6", nothing, nothing
		    scope defer 9 read
		rep line 0.0:2; throw 0.0:5 x; throw 0.0:6 error 6; print 0.0:4 5; catch 0.0:2 error 6; gives ticks 3 made 0`,
		33: `
		pace 0 due 1 births 1 vers 1 moves 33
		0: table born 1 ver 1 of -1 turns 2 1:"code"=6 2:"line"=6
		task 0 running
		  code at 25 line 9
		    value 1, value t0, value "main:6", nothing, nothing
		rep line 0.0:2; throw 0.0:5 x; throw 0.0:6 error 6; print 0.0:4 5; catch 0.0:2 error 6; gives ticks 4 made 0`,
	})
	// A guard that a return passes by leaves the limit of the one that was left last.
	checkStood(t, "const 0 1; scope 1; try @h 1; scope 2; later 3 print; give 3; h: throw 0", plenty(), 0, map[int]string{
		12: `
		pace 0 due 0 births 0 vers 0 moves 12
		task 0 running
		  code at 8 limit 2 leaving way return
		    value 1, nothing, nothing, nothing, nothing
		    scope keep 1
		rep print 0.0:0; gives ticks 1 made 0`,
		13: `
		pace 0 due 0 births 0 vers 0 moves 13
		task 0 running
		  code at 8 limit 1 leaving way return
		    value 1, nothing, nothing, nothing, nothing
		rep print 0.0:0; gives ticks 1 made 0`,
	})
}

// P7: tasks in each state, who waits for them; a giving up with an error that is dropped.
func TestLoomStandTasks(t *testing.T) {
	checkStood(t, `proto main
fn 0 f; one 1 task r0; one 2 task r0; drop 0; do 3 resume r1 "in"; do 3 giveup r1; return 3
proto f rest
at 3; scope 1; later 1 7; fn 1 g; one 2 task ~1; one 3 resume r2; do 4 yield r3 "out"; return 4
proto g
give 0 4`, plenty(), 0, map[int]string{
		17: `
		pace 0 due 1 births 1 vers 0 moves 17 since 3
		0: fn born 1 proto 1
		task 0 running
		  code at 17
		    nothing, value k1, value k2, value resume, list k1 "in", nothing
		task 1 new of f0
		task 2 new of f0
		rep gives ticks 2 made 3`,
		18: `
		pace 0 due 1 births 1 vers 0 moves 18 cur 1 since 3
		0: fn born 1 proto 1
		task 0 busy
		  code at 17
		    nothing, value k1, value k2, nothing, nothing, nothing
		task 1 running waiter 0
		  code proto 1 at 0 self 0
		    list "in", nothing, nothing, nothing, nothing, nothing, nothing
		task 2 new of f0
		rep turn 1.0:0 resume; call 1.1:0 f; gives ticks 4 made 3`,
		33: `
		pace 0 due 2 births 2 vers 0 moves 33 cur 3 since 5
		0: fn born 1 proto 1
		1: fn born 2 proto 2
		task 0 busy
		  code at 17
		    nothing, value k1, value k2, nothing, nothing, nothing
		task 1 busy waiter 0
		  code proto 1 at 14 self 0 line 3
		    list "in", nothing, value k3, nothing, nothing, nothing, nothing
		    scope keep 1 defer 3 7
		task 2 new of f0
		task 3 running waiter 1
		  code proto 2 at 0 self 1
		    nothing, nothing
		rep turn 1.0:0 resume; call 1.1:0 f; turn 3.0:0 resume; call 3.2:0 g; gives ticks 7 made 5`,
		38: `
		pace 0 due 2 births 2 vers 0 moves 38 cur 3 since 5
		given 4
		0: fn born 1 proto 1
		1: fn born 2 proto 2
		task 0 busy
		  code at 17
		    nothing, value k1, value k2, nothing, nothing, nothing
		task 1 busy waiter 0
		  code proto 1 at 14 self 0 line 3
		    list "in", nothing, value k3, nothing, nothing, nothing, nothing
		    scope keep 1 defer 3 7
		task 2 new of f0
		task 3 running waiter 1
		rep turn 1.0:0 resume; call 1.1:0 f; turn 3.0:0 resume; call 3.2:0 g; back 3.2:0; gives ticks 7 made 5`,
		39: `
		pace 0 due 2 births 2 vers 0 moves 39 cur 1 since 5
		given true 4
		0: fn born 1 proto 1
		1: fn born 2 proto 2
		task 0 busy
		  code at 17
		    nothing, value k1, value k2, nothing, nothing, nothing
		task 1 running waiter 0
		  code proto 1 at 14 self 0 line 3
		    list "in", nothing, value k3, nothing, nothing, nothing, nothing
		    scope keep 1 defer 3 7
		task 2 new of f0
		task 3 done
		rep turn 1.0:0 resume; call 1.1:0 f; turn 3.0:0 resume; call 3.2:0 g; back 3.2:0; turn 1.0:0 done; gives ticks 7 made 5`,
		50: `
		pace 0 due 2 births 2 vers 0 moves 50 since 5
		0: fn born 1 proto 1
		1: fn born 2 proto 2
		task 0 running
		  code at 21
		    nothing, value k1, value k2, value giveup, list k1, nothing
		task 1 waiting
		  code proto 1 at 21 self 0 line 3
		    list "in", nothing, value k3, value true, nothing, nothing, nothing
		    scope keep 1 defer 3 7
		task 2 new of f0
		task 3 done
		rep turn 1.0:0 resume; call 1.1:0 f; turn 3.0:0 resume; call 3.2:0 g; back 3.2:0; turn 1.0:0 done; turn 0.0:0 yield; gives ticks 8 made 5`,
		51: `
		pace 0 due 2 births 2 vers 0 moves 51 cur 1 since 5
		way gone
		0: fn born 1 proto 1
		1: fn born 2 proto 2
		task 0 busy
		  code at 21
		    nothing, value k1, value k2, nothing, nothing, nothing
		task 1 running waiter 0 giving
		  code proto 1 at 21 self 0 line 3
		    list "in", nothing, value k3, value true, nothing, nothing, nothing
		    scope keep 1 defer 3 7
		task 2 new of f0
		task 3 done
		rep turn 1.0:0 resume; call 1.1:0 f; turn 3.0:0 resume; call 3.2:0 g; back 3.2:0; turn 1.0:0 done; turn 0.0:0 yield; turn 1.0:0 giveup; gives ticks 9 made 5`,
		52: `
		pace 0 due 2 births 2 vers 0 moves 52 cur 1 since 5
		0: fn born 1 proto 1
		1: fn born 2 proto 2
		task 0 busy
		  code at 21
		    nothing, value k1, value k2, nothing, nothing, nothing
		task 1 running waiter 0 giving
		  code proto 1 at 21 self 0 line 3 saved 3 leaving way gone
		    list "in", nothing, value k3, value true, nothing, nothing, nothing
		    scope keep 1 defer 3 7
		task 2 new of f0
		task 3 done
		rep turn 1.0:0 resume; call 1.1:0 f; turn 3.0:0 resume; call 3.2:0 g; back 3.2:0; turn 1.0:0 done; turn 0.0:0 yield; turn 1.0:0 giveup; gives ticks 9 made 5`,
		53: `
		pace 0 due 3 births 3 vers 1 moves 53 cur 1 since 5
		way error t2 at f:3
		0: fn born 1 proto 1
		1: fn born 2 proto 2
		2: table born 3 ver 1 of -1 turns 2 1:"code"=6 2:"line"=3
		task 0 busy
		  code at 21
		    nothing, value k1, value k2, nothing, nothing, nothing
		task 1 running waiter 0 giving
		  code proto 1 at 21 self 0 line 3 saved 3 limit 1 leaving way gone
		    list "in", nothing, nothing, nothing, nothing, nothing, nothing
		    scope keep 1
		task 2 new of f0
		task 3 done
		rep turn 1.0:0 resume; call 1.1:0 f; turn 3.0:0 resume; call 3.2:0 g; back 3.2:0; turn 1.0:0 done; turn 0.0:0 yield; turn 1.0:0 giveup; throw 1.1:3 error 6; gives ticks 10 made 5`,
		54: `
		pace 0 due 3 births 3 vers 1 moves 54 cur 1 since 5
		0: fn born 1 proto 1
		1: fn born 2 proto 2
		2: table born 3 ver 1 of -1 turns 2 1:"code"=6 2:"line"=3
		task 0 busy
		  code at 21
		    nothing, value k1, value k2, nothing, nothing, nothing
		task 1 running waiter 0 giving dropped false t2 "f:3"
		  code proto 1 at 21 self 0 line 3 saved 3 limit 1 leaving way gone
		    list "in", nothing, nothing, nothing, nothing, nothing, nothing
		    scope keep 1
		task 2 new of f0
		task 3 done
		rep turn 1.0:0 resume; call 1.1:0 f; turn 3.0:0 resume; call 3.2:0 g; back 3.2:0; turn 1.0:0 done; turn 0.0:0 yield; turn 1.0:0 giveup; throw 1.1:3 error 6; gives ticks 10 made 5`,
		57: `
		pace 0 due 3 births 3 vers 1 moves 57 since 5
		given false t2 "f:3"
		0: fn born 1 proto 1
		1: fn born 2 proto 2
		2: table born 3 ver 1 of -1 turns 2 1:"code"=6 2:"line"=3
		task 0 running
		  code at 21
		    nothing, value k1, value k2, nothing, nothing, nothing
		task 1 done
		task 2 new of f0
		task 3 done
		rep turn 1.0:0 resume; call 1.1:0 f; turn 3.0:0 resume; call 3.2:0 g; back 3.2:0; turn 1.0:0 done; turn 0.0:0 yield; turn 1.0:0 giveup; throw 1.1:3 error 6; back 1.1:0 gone; turn 0.0:0 gone; gives ticks 10 made 5`,
	})
}

// P7: a collect that is going on, between its rounds and in one; what wants a last word.
func TestLoomStandCollects(t *testing.T) {
	checkStood(t, `proto main
fn 2 f; table 0; const 1 "last"; raw 0 ~1 2; table 1; do 3 setkind r1 r0; drop 3; drop 1; table 1; do 3 setkind r1 ~0; drop 3; drop 1; do 0 collect; return 0
proto f params=1
const 1 "k"; set 0 1 1; give 1 5`, plenty(), 0, map[int]string{
		22: `
		pace 0 due 4 births 4 vers 4 moves 22 since 5
		0: fn born 1 proto 1
		1: table born 2 ver 2 of -1 turns 1 1:"last"=f0
		2: table born 3 ver 3 of 1 wants
		3: table born 4 ver 4 of 1 wants
		task 0 running
		  code at 22
		    value collect, list, value f0, nothing, nothing
		rep gives ticks 2 made 5`,
		23: `
		pace 0 due 4 births 4 vers 4 moves 23 since 5
		0: fn born 1 proto 1
		1: table born 2 ver 2 of -1 turns 1 1:"last"=f0
		2: table born 3 ver 3 of 1 wants
		3: table born 4 ver 4 of 1 wants
		task 0 running
		  code at 22
		    nothing, nothing, value f0, nothing, nothing
		  collect
		rep gives ticks 3 made 5`,
		24: `
		pace 0 due 4 births 4 vers 4 moves 24 since 5
		0: fn born 1 proto 1
		1: table born 2 ver 2 of -1 turns 1 1:"last"=f0
		2: table born 3 ver 3 of 1
		3: table born 4 ver 4 of 1
		task 0 running
		  code at 22
		    nothing, nothing, value f0, nothing, nothing
		  collect step 1 round vals t2 f0 t3 f0
		  code proto 1 at 0 self 0
		    value t2, nothing, nothing
		rep last 0.0:0; call 0.1:0 f; gives ticks 4 made 5`,
		30: `
		pace 0 due 4 births 4 vers 5 moves 30 since 6
		0: fn born 1 proto 1
		1: table born 2 ver 2 of -1 turns 1 1:"last"=f0
		2: table born 3 ver 5 of 1 turns 1 1:"k"="k"
		3: table born 4 ver 4 of 1
		task 0 running
		  code at 22
		    nothing, nothing, value f0, nothing, nothing
		  collect step 1 round vals t2 f0 t3 f0
		  code proto 1 at 5 self 0 leaving way return 5
		    value t2, nothing, nothing
		rep last 0.0:0; call 0.1:0 f; gives ticks 4 made 6`,
		39: `
		pace 0 due 4 births 4 vers 6 moves 39 since 7
		given 5
		0: fn born 1 proto 1
		1: table born 2 ver 2 of -1 turns 1 1:"last"=f0
		2: table born 3 ver 5 of 1 turns 1 1:"k"="k"
		3: table born 4 ver 6 of 1 turns 1 1:"k"="k"
		task 0 running
		  code at 22
		    nothing, nothing, value f0, nothing, nothing
		  collect step 2 round vals t2 f0 t3 f0
		rep last 0.0:0; call 0.1:0 f; back 0.1:0; last 0.0:0; call 0.1:0 f; back 0.1:0; gives ticks 5 made 7`,
		40: `
		pace 0 due 4 births 4 vers 6 moves 40 since 7
		0: fn born 1 proto 1
		1: table born 2 ver 2 of -1 turns 1 1:"last"=f0
		2: table born 3 ver 5 of 1 turns 1 1:"k"="k"
		3: table born 4 ver 6 of 1 turns 1 1:"k"="k"
		task 0 running
		  code at 22
		    nothing, nothing, value f0, nothing, nothing
		  collect
		rep last 0.0:0; call 0.1:0 f; back 0.1:0; last 0.0:0; call 0.1:0 f; back 0.1:0; gives ticks 5 made 7`,
		41: `
		pace 0 due 4 births 4 vers 6 moves 41 live 1
		given 1
		0: fn born 1 proto 1
		1: table born 2 ver 2 of -1 turns 1 1:"last"=f0
		2: table born 3 ver 5 of 1 turns 1 1:"k"="k"
		3: table born 4 ver 6 of 1 turns 1 1:"k"="k"
		task 0 running
		  code at 22
		    nothing, nothing, value f0, nothing, nothing
		rep last 0.0:0; call 0.1:0 f; back 0.1:0; last 0.0:0; call 0.1:0 f; back 0.1:0; gives ticks 5 made 7`,
		42: `
		pace 0 due 4 births 4 vers 6 moves 42 live 1
		0: fn born 1 proto 1
		1: table born 2 ver 2 of -1 turns 1 1:"last"=f0
		2: table born 3 ver 5 of 1 turns 1 1:"k"="k"
		3: table born 4 ver 6 of 1 turns 1 1:"k"="k"
		task 0 running
		  code at 23
		    list 1, nothing, value f0, nothing, nothing
		rep last 0.0:0; call 0.1:0 f; back 0.1:0; last 0.0:0; call 0.1:0 f; back 0.1:0; gives ticks 5 made 7`,
	})
}

// P7: what becomes of a handler's values, below the handler's own call.
func TestLoomStandHandlers(t *testing.T) {
	checkStood(t, `proto main
line 1; table 0; table 1; const 2 "eq"; fn 3 h; raw 1 2 3; one 2 setkind r0 ~1; drop 2; drop 3; table 1; binary 1 ne 0 ~1; give 3
proto h params=2
const 2 7; throw 2`, plenty(), 0, map[int]string{
		15: `
		pace 0 due 4 births 4 vers 4 moves 15 since 5
		0: table born 1 ver 1 of 1
		1: table born 2 ver 3 of -1 turns 1 1:"eq"=f2
		2: fn born 3 proto 1
		3: table born 4 ver 4 of -1
		task 0 running
		  code at 15 line 1
		    value t0, nothing, nothing, nothing
		  after then 3
		  code proto 1 at 0 self 2
		    value t0, value t3, nothing
		rep line 0.0:1; call 0.1:0 h; gives ticks 3 made 5`,
		17: `
		pace 0 due 4 births 4 vers 4 moves 17 since 5
		way error 7 at h:0 main:1
		0: table born 1 ver 1 of 1
		1: table born 2 ver 3 of -1 turns 1 1:"eq"=f2
		2: fn born 3 proto 1
		3: table born 4 ver 4 of -1
		task 0 running
		  code at 15 line 1
		    value t0, nothing, nothing, nothing
		  after then 3
		  code proto 1 at 1 self 2
		    value t0, value t3, value 7
		rep line 0.0:1; call 0.1:0 h; throw 0.1:0 7; gives ticks 3 made 5`,
		18: `
		pace 0 due 4 births 4 vers 4 moves 18 since 5
		0: table born 1 ver 1 of 1
		1: table born 2 ver 3 of -1 turns 1 1:"eq"=f2
		2: fn born 3 proto 1
		3: table born 4 ver 4 of -1
		task 0 running
		  code at 15 line 1
		    value t0, nothing, nothing, nothing
		  after then 3
		  code proto 1 at 1 self 2 leaving way error 7 at h:0 main:1
		    value t0, value t3, value 7
		rep line 0.0:1; call 0.1:0 h; throw 0.1:0 7; gives ticks 3 made 5`,
		19: `
		pace 0 due 4 births 4 vers 4 moves 19 since 5
		way error 7 at h:0 main:1
		0: table born 1 ver 1 of 1
		1: table born 2 ver 3 of -1 turns 1 1:"eq"=f2
		2: fn born 3 proto 1
		3: table born 4 ver 4 of -1
		task 0 running
		  code at 15 line 1
		    value t0, nothing, nothing, nothing
		  after then 3
		rep line 0.0:1; call 0.1:0 h; throw 0.1:0 7; back 0.1:0 error; gives ticks 3 made 5`,
	})
}
