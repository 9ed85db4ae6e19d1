package tests

import (
	"fmt"
	"strings"
	"testing"

	"loop.example/heddle/impl"
)

// P5: lines, ticks and the line at hand.
func TestStepLines(t *testing.T) {
	checkSteps(t, "line 3; at 5; say 0; at 0; say 0 1; tick; line 100000; say 0 2; give 0",
		"line 0.0:3", "print 0.0:5", "print 0.0:0 1", "line 0.0:100000", "print 0.0:100000 2", "gives")
	r := ranCode(t, "ticks", stepsOf("at 9; tick; tick; give 0"), plenty())
	if r.Ticks != 2 || r.Made != 0 || len(r.Recs) != 0 || r.Code != 0 {
		t.Errorf("%+v", r)
	}
}

// P5: consts of every kind, moves, and what is taken.
func TestStepValues(t *testing.T) {
	checkGives(t, `give 0 nil true false 7 -9223372036854775808 1.5 -0.0 "x" "" print`, "gives nil true false 7 -9223372036854775808 3p-1 -0p0 x  builtin")
	checkGives(t, "const 0 7; move 1 0; move 0 1; give 2 r0 r1", "gives 7 7")
	// What is taken is gone: the register can be filled with something else; an operand may read it ahead of that.
	checkGives(t, "const 0 7; move 1 ~0; list 0; add 0 ~1; return 0", "gives 7")
	checkGives(t, "const 0 7; binary 1 add 0 ~0; list 0; add 0 1; return 0", "gives 14")
	checkGives(t, "const 0 7; move 0 ~0; binary 0 mul 0 ~0; give 1 r0", "gives 49")
	checkGives(t, "const 0 7; const 1 2; binary 2 sub 0 1; binary 3 idiv ~0 ~1; give 0 r2 ~3", "gives 5 3")
	checkGives(t, `const 0 "ab"; unary 1 len 0; unary 0 not ~0; unary 2 neg 1; unary 3 flip 1; give 4 r0 r1 r2 r3`, "gives false 2 -2 -3")
}

// P5: boxes: each IBox makes a new one; two fns share one; an up of an up is the same box.
func TestStepBoxes(t *testing.T) {
	checkGives(t, "const 0 7; box 1 0; put 1 0; get 2 1; const 3 8; put 1 ~3; get 3 1; give 4 r0 r2 r3", "gives 7 7 8")
	shared := `proto main
const 0 1; box 0 ~0; fn 1 inc; fn 2 tell; do 3 r1; drop 3; do 3 r1; drop 3; do 3 r2; return ~3
proto inc ups=r0
upget 0 0; const 1 10; binary 0 mul ~0 ~1; upput 0 ~0; list 0; return 0
proto tell params=0 ups=r0
fn 0 inner; do 1 r0; return ~1
proto inner ups=u0
upget 0 0; upput 0 0; give 1 r0`
	checkGives(t, shared, "gives 100")
	// A new box in the same register leaves the fn its own.
	checkGives(t, `proto main
const 0 1; box 0 ~0; fn 1 f; const 2 5; put 0 ~2; const 2 9; box 0 ~2; do 2 r1; first 2 ~2; get 3 0; give 4 r2 r3
proto f ups=r0
upget 0 0; give 1 r0`, "gives 5 9")
	// The same box twice, and in another order.
	checkGives(t, `proto main
const 0 1; box 0 ~0; const 1 2; box 1 ~1; fn 2 f; do 3 r2; drop 3; get 0 0; get 1 1; give 3 r0 r1
proto f ups=r1,r0,r1
upget 0 0; const 1 40; binary 0 add ~0 ~1; upput 2 ~0; upget 0 1; const 1 10; binary 0 add ~0 ~1; upput 1 ~0; give 0`, "gives 11 42")
}

// P5: lists.
func TestStepLists(t *testing.T) {
	checkGives(t, "list 0; const 1 1; add 0 1; add 0 ~1; copy 1 0; join 0 1; join 0 0; const 2 7; add 1 2; join 0 ~1; return 0", "gives 1 1 1 1 1 1 1 1 1 1 7")
	checkGives(t, "list 0; const 1 1; add 0 1; copy 1 0; const 2 2; add 0 2; const 2 3; add 1 2; list 3; join 3 0; join 3 1; return 3", "gives 1 2 1 3")
	checkGives(t, "list 0; copy 1 0; first 2 0; first 3 ~0; pick 4 1 0; give 0 r2 r3 r4", "gives nil nil nil")
	checkGives(t, "list 0; const 1 5; add 0 1; const 1 6; add 0 1; first 2 0; pick 3 0 0; pick 4 0 1; pick 5 0 2; pick 6 0 250; first 1 ~0; give 7 r1 r2 r3 r4 r5 r6",
		"gives 5 5 5 6 nil nil")
	checkGives(t, "list 0; const 1 5; add 0 1; pick 0 0 0; give 1 r0", "gives 5")
	checkGives(t, "list 0; const 1 5; add 0 1; copy 0 0; first 0 ~0; give 1 r0", "gives 5")
}

// P5: a list that others have got is theirs, whatever comes behind it in its register.
func TestStepListsApart(t *testing.T) {
	checkGives(t, `proto main
fn 5 f; list 0; const 1 1; add 0 1; add 0 1; add 0 1; copy 2 0; call 3 5 0; const 1 2; add 0 1; add 2 1; call 4 5 0
const 1 3; add 3 1; add 4 1; do 6 print; drop 6; const 6 print; move 7 6; call 8 6 0; call 8 6 2; call 8 6 3; call 8 6 4; return 0
proto f rest
copy 1 0; const 2 9; add 0 2; return 1`, "", "1 1 1 2", "1 1 1 2", "1 1 1 3", "1 1 1 2 3", "gives 1 1 1 2")
	// What a defer has kept, what a task was given, and a last word's argument.
	checkGives(t, `proto main
fn 1 f; scope 2; list 2; const 3 1; add 2 3; defer 1 2; const 3 2; add 2 3; defer 1 2; leave; return 2
proto f rest
const 1 7; add 0 1; const 1 print; call 2 1 0; return 2`, "1 2 7", "1 7", "gives 1 2")
	checkGives(t, `proto main
fn 0 g; table 1; const 2 "last"; raw 1 2 0; table 4; one 5 setkind r4 r1; table 4; one 5 setkind r4 r1; drop 4; drop 5; do 4 collect; return 4
proto g rest
const 1 7; add 0 1; add 0 1; add 0 1; const 1 print; call 2 1 0; return 2`, "table 7 7 7", "table 7 7 7", "gives 3")
}

// P5: a list has at most MaxList values; IJoin and IAdd throw for more, and the list is as it was.
func TestStepListLimits(t *testing.T) {
	const fill = "list 0; const 1 1; add 0 1; add 0 1; copy 2 0; join 2 0; join 0 ~2; copy 2 0; join 2 0; join 2 0; join 2 0; join 2 0; join 0 ~2; copy 2 0; join 2 0; join 2 0; join 2 0; join 0 ~2; drop 1; "
	if got := len(ranCode(t, fill, stepsOf(fill+"return 0"), plenty()).Vals); got != 6*6*5 {
		t.Fatal(got)
	}
	// 180 and 70 meet it exactly, 180 and 71 pass it; when it is passed nothing is put.
	const behind = `; endtry; const 4 0; jump @e; h: index 4 ~4 3; drop 5; e: pick 5 0 180; pick 6 0 249; unary 5 not ~5; unary 6 not ~6; give 7 r4 r5 r6`
	for count, want := range map[int][]string{69: {"0", "false", "true"}, 70: {"0", "false", "false"}, 71: {"4", "false", "false"}} {
		adds := fill + `const 1 1; drop 2; list 2; const 3 "code"; try @h 4` + strings.Repeat("; add 0 1", count) + behind
		checkShown(t, fmt.Sprint(count, " times IAdd"), ranCode(t, adds, stepsOf(adds), plenty()).Vals, want)
		if count == 71 {
			want = []string{"4", "true", "true"}
		}
		join := fill + "const 1 1; list 2" + strings.Repeat("; add 2 1", count) + `; const 3 "code"; try @h 4; join 0 2` + behind
		checkShown(t, fmt.Sprint("IJoin of ", count), ranCode(t, join, stepsOf(join), plenty()).Vals, want)
	}
	// A rest that is longer, as handlers `call` make it, takes no more; even nothing cannot be joined to it.
	for do, want := range map[string]string{"const 1 1; add 0 1; return 0": "error 4 at f:0 main:0", "list 1; join 0 1; return 0": "error 4 at f:0 main:0", "pick 1 0 250; give 2 r1": "gives 1"} {
		text := "proto main\nfn 4 f; table 3; table 5; const 6 \"call\"; raw 5 6 4; one 6 setkind r3 r5; drop 6; " + fill + "const 1 1; " + strings.Repeat("add 0 1; ", 70) +
			"call 6 3 0; return 6\nproto f rest\n" + do
		checkShown(t, do, saysOf(ranCode(t, text, stepsOf(text), plenty())), []string{want})
	}
}

// P5: tables: IRaw, IRawAll, IIndex, ISet.
func TestStepTables(t *testing.T) {
	checkGives(t, `table 0; const 1 "k"; const 2 5; raw 0 1 2; index 3 0 1; const 4 nil; raw 0 1 4; index 4 0 1; set 0 1 2; index 5 ~0 ~1; give 6 r3 r4 r5`, "gives 5 nil 5")
	checkGives(t, `table 0; const 1 2.0; const 2 5; raw 0 ~1 ~2; const 1 2; index 1 0 1; give 2 r1`, "gives 5")
	checkGives(t, `table 0; list 1; const 2 8; add 1 2; const 3 nil; add 1 3; const 2 9; add 1 2; const 2 5; rawall 0 2 1; index 2 0 2; const 3 6; index 3 0 3; const 4 7; index 4 0 4; const 5 7; rawall 0 5 ~1; const 5 9; index 5 0 5; give 6 r2 r3 r4 r5`,
		"gives 8 nil 9 9")
	// A nil takes out what is there; the keys wrap.
	checkGives(t, `table 0; list 1; const 2 8; add 1 2; const 2 9; add 1 2; const 3 9223372036854775807; rawall 0 3 1; index 3 0 3; const 4 -9223372036854775808; index 5 0 4
list 1; const 2 nil; add 1 2; rawall 0 4 1; index 4 0 4; unary 6 len 0; give 7 r3 r5 r4 r6`, "gives 8 9 nil 0")
	checkGives(t, `table 0; list 1; const 2 "x"; const 3 0; rawall 0 3 1; give 4 r0`, "gives table")
	for text, code := range map[string]int{
		"const 0 7; const 1 1; raw 0 1 1":                                impl.ErrIndex,
		"const 0 nil; const 1 nil; raw 0 1 1":                            impl.ErrIndex,
		"table 0; const 1 nil; const 2 1; raw 0 1 2":                     impl.ErrKey,
		"table 0; const 1 nil; raw 0 1 1":                                impl.ErrKey,
		"const 0 7; const 1 nil; list 2; rawall 0 1 2":                   impl.ErrIndex,
		"table 0; const 1 nil; list 2; rawall 0 1 2":                     impl.ErrKey,
		"table 0; const 1 1.0; list 2; rawall 0 1 2":                     impl.ErrKey,
		`table 0; const 1 "x"; list 2; const 3 1; add 2 3; rawall 0 1 2`: impl.ErrKey,
		"const 0 7; const 1 1; index 2 0 1":                              impl.ErrIndex,
		"const 0 \"s\"; const 1 nil; index 2 0 1":                        impl.ErrIndex,
		"table 0; const 1 nil; index 2 0 1":                              0,
		"const 0 7; const 1 nil; set 0 1 1":                              impl.ErrIndex,
		"table 0; const 1 nil; set 0 1 1":                                impl.ErrKey,
		"const 0 7; unary 0 flip 0; const 1 1.5; unary 1 flip 1":         impl.ErrType,
		"const 0 7; const 1 0; binary 2 idiv 0 1":                        impl.ErrZero,
		"const 0 7; const 1 -1; binary 2 shl 0 1":                        impl.ErrRange,
		"const 0 7; const 1 nil; binary 2 lt 0 1":                        impl.ErrType,
		"const 0 7; const 1 nil; binary 2 eq 0 1; binary 2 ne 0 1":       0,
		"const 0 nil; unary 1 len 0":                                     impl.ErrType,
		"const 0 nil; unary 1 not 0":                                     0,
		"const 0 1; const 1 \"a\"; const 2 1; for 0":                     impl.ErrType,
		"const 0 1; const 1 \"a\"; const 2 0; for 0":                     impl.ErrType,
		"const 0 1; const 1 5; const 2 0; for 0":                         impl.ErrStep,
		"const 0 1; const 1 5; const 2 -0.0; for 0":                      impl.ErrStep,
		"const 0 0.0; const 1 5; move 2 0; binary 2 div ~2 0; for 0":     impl.ErrStep,
		"const 0 5; const 1 5; each 1; drop 2":                           impl.ErrType,
		"table 0; each 0":                                                0,
		"const 0 5; const 1 3; eachnext 0 @e 2; drop 2; e: tick":         impl.ErrIndex,
		"const 0 5; const 1 nil; eachnext 0 @e 2; drop 2; e: tick":       impl.ErrCall,
		"const 0 print; list 1; call 0 0 1":                              0,
		"const 0 7; list 1; call 0 0 1":                                  impl.ErrCall,
	} {
		checkStepCode(t, text, code)
	}
}

// checkStepCode: the code of the error that instructions throw, or 0 for none; they use registers up to 5.
func checkStepCode(t *testing.T, text string, code int) {
	t.Helper()
	c := stepsOf("proto main regs=8\nline 4; " + text + "; list 6; return 6")
	r := ranCode(t, text, c, plenty())
	want := "gives"
	if code > 0 {
		want = fmt.Sprintf("error %d at main:4", code)
	}
	told := stepsTold(r)
	if told[len(told)-1] != want {
		t.Errorf("%s: %v, want %s", text, told, want)
	}
}

// P5: IRawAll puts in what is ahead of the element that fails, and all that it took is gone.
func TestStepRawAllFails(t *testing.T) {
	text := `table 0; list 1; const 2 8; add 1 2; add 1 2; add 1 2; const 2 1; try @h 3; rawall 0 2 1; endtry; give 3 "never"; h: unary 5 len 0; give 6 r5`
	for cells, want := range map[int]string{1: "0", 2: "1", 3: "2"} {
		in := plenty()
		in.Cells = cells
		checkShown(t, fmt.Sprint(cells), ranCode(t, text, stepsOf(text), in).Vals, []string{want})
	}
	in := plenty()
	in.Cells = 4
	checkShown(t, "enough", ranCode(t, text, stepsOf(text), in).Vals, []string{"never"})
}

// P5: jumps by the Truth of a value, that stays or is taken.
func TestStepJumps(t *testing.T) {
	for value, truth := range map[string]bool{"nil": false, "false": false, "true": true, "0": true, `""`: true, "0.0": true, "print": true} {
		want := "gives no no no no"
		if truth {
			want = "gives yes yes yes yes"
		}
		checkGives(t, "const 1 \"yes\"; const 2 \"yes\"; const 3 \"no\"; const 4 \"no\"; const 0 "+value+
			`; if 0 @a; const 1 "no"; a: const 0 `+value+`; if ~0 @b; const 2 "no"; b: const 0 `+value+
			`; unless 0 @c; const 3 "yes"; c: const 0 `+value+`; unless ~0 @d; const 4 "yes"; d: give 5 r1 r2 r3 r4`, want)
	}
	checkGives(t, "jump @b; a: give 0 1; b: jump @a", "gives 1")
}

// P5: IFor, IForTest and IForNext, with numbers and with what IFor would never let through.
func TestStepCounts(t *testing.T) {
	count := func(at, to, step string) string {
		return "const 0 " + at + "; const 1 " + to + "; const 2 " + step + "; for 0; list 3; t: fortest 0 @e; tick; add 3 0; fornext 0 @t; e: return 3"
	}
	for text, want := range map[string]string{
		count("1", "3", "1"):   "gives 1 2 3",
		count("3", "1", "-1"):  "gives 3 2 1",
		count("1", "0", "1"):   "",
		count("1", "1", "-7"):  "gives 1",
		count("1", "2", "0.5"): "gives 1p0 3p-1 1p1",
		count("1", "2.5", "1"): "gives 1p0 1p1",
		count("9223372036854775805", "9223372036854775807", "2"):    "gives 9223372036854775805 9223372036854775807",
		count("-9223372036854775807", "-9223372036854775808", "-1"): "gives -9223372036854775807 -9223372036854775808",
		count("9007199254740993", "9007199254740993", "4.0"):        "gives 1p53",
	} {
		var says []string
		if want != "" {
			says = []string{want}
		}
		checkGives(t, text, says...)
	}
	// Where IForTest goes on at its target, by what stands in the three places.
	for values, jumps := range map[string]bool{
		"1 2 1": false, "2 2 1": false, "3 2 1": true, "1 2 -1": true, "2 2 -1": false, "3 2 -1": false,
		"1 2 0": false, "3 2 0": true, "1 2 nil": false, "3 2 nil": true, `3 2 "x"`: true, `1 2 "x"`: false, "1 2 -0.5": true, "3 2 -0.5": false,
		`"a" "b" 1`: false, `"b" "a" 1`: true, `"b" "a" -1`: false, `1 "a" 1`: true, "nil nil 1": true, "1 nil -1": true, "print print 1": true,
	} {
		v := strings.Fields(values)
		want := map[bool]string{false: "gives 0", true: "gives 1"}[jumps]
		checkGives(t, "const 0 "+v[0]+"; const 1 "+v[1]+"; const 2 "+v[2]+"; fortest 0 @e; give 3 0; e: give 3 1", want)
	}
	// Where IForNext does, and what the first place is then.
	for values, want := range map[string]string{
		"1 2 1": "gives 1 2", "1 nil -1": "gives 1 0", "1 2 0": "gives 0 1", "1 2 0.0": "gives 1 1p0", "1 2 nil": "gives 0 1", `"1" 2 1`: "gives 0 1", "print 2 1": "gives 0 builtin",
		"9223372036854775807 0 1": "gives 0 9223372036854775807", "9223372036854775806 0 1": "gives 1 9223372036854775807",
		"-9223372036854775808 0 -1": "gives 0 -9223372036854775808", "-9223372036854775807 0 -1": "gives 1 -9223372036854775808",
		"9223372036854775807 0 9223372036854775807": "gives 0 9223372036854775807", "1.5 0 1": "gives 1 5p-1",
	} {
		v := strings.Fields(values)
		checkGives(t, "const 0 "+v[0]+"; const 1 "+v[1]+"; const 2 "+v[2]+"; fornext 0 @e; give 3 0 r0; e: give 3 1 r0", want)
	}
	// With an error the places stay as they were; without one they become floats.
	checkGives(t, `const 0 1; const 1 2; const 2 0.0; const 3 "code"; try @h 4; for 0; endtry; give 4 0; h: give 6 r0 r1 r2`, "gives 1 2 0p0")
	checkGives(t, `const 0 1; const 1 2.5; const 2 nil; const 3 "code"; try @h 4; for 0; endtry; give 4 0; h: give 6 r0 r1 r2`, "gives 1 5p-1 nil")
	checkGives(t, `const 0 1; const 1 9007199254740993; const 2 -3.0; for 0; give 4 r0 r1 r2`, "gives 1p0 1p53 -3p0")
	checkGives(t, `const 0 1; const 1 9007199254740993; const 2 -3; for 0; give 4 r0 r1 r2`, "gives 1 9007199254740993 -3")
}

// P5: the arguments: too few, too many, with Rest and without; those of the text are its Rest.
func TestStepArguments(t *testing.T) {
	for head, want := range map[string]string{
		"params=0":      "",
		"params=1":      "gives 1",
		"params=2":      "gives 1 2",
		"params=4":      "gives 1 2 3 nil",
		"params=0 rest": "gives 1 2 3",
		"params=2 rest": "gives 1 2 | 3",
		"params=3 rest": "gives 1 2 3 |",
		"params=4 rest": "gives 1 2 3 nil |",
	} {
		params := int(head[7] - '0')
		body := "list 5"
		for i := range params {
			body += fmt.Sprintf("; add 5 %d", i)
		}
		if strings.HasSuffix(head, "rest") {
			if params > 0 {
				body += `; const 6 "|"; add 5 6`
			}
			body += fmt.Sprintf("; join 5 ~%d", params)
		}
		var says []string
		if want != "" {
			says = []string{want}
		}
		checkGives(t, "proto main\nfn 0 f; do 1 r0 1 2 3; return 1\nproto f "+head+"\n"+body+"; return 5", says...)
	}
	in := plenty()
	in.Args = []string{"a", "", "b c"}
	text := "proto main rest\ncopy 1 0; return 1"
	checkShown(t, text, stepsTold(ranCode(t, text, stepsOf(text), in)), []string{"gives a  b c"})
	text = "proto main\nlist 0; return 0"
	checkShown(t, text, stepsTold(ranCode(t, text, stepsOf(text), in)), []string{"gives"})
}

// P5: every Op in one code, as the verifier's tests have it.
func TestStepEveryOp(t *testing.T) {
	for told, c := range map[string]impl.Code{"every Op": everyOp(), "guards within guards": guardedCode()} {
		ranCode(t, told, c, plenty())
		for ticks := range 30 {
			in := plenty()
			in.Ticks = ticks
			ranCode(t, told, c, in)
		}
	}
}
