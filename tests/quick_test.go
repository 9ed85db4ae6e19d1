package tests

import (
	"fmt"
	"math/rand"
	"reflect"
	"slices"
	"strings"
	"testing"

	"loop.example/heddle/impl"
)

// P7: an instruction is the second of one quick instruction and the first of the next one; no row takes what another one has.
func TestQuickOneBehindTheOther(t *testing.T) {
	checkQuick(t, "const 0 1; tick; const 1 2; binary 1 eq 0 ~1; if ~1 @end; end: throw ~0", "-; -; qwith 1 13 0 1 0 1; qtest 1 13 0 ~1 5 1; -; -")
	checkQuick(t, "const 0 1; tick; const 1 2; binary 1 ge ~1 ~0; unless ~1 @end; end: list 0; return ~0", "-; -; qwith 1 18 ~0 1 1 1; qtest 1 18 ~1 ~0 5 0; -; -; -")
	// A string has its QWith as well; an IIndex behind it, its QField.
	checkQuick(t, "table 0; const 1 \"a\"; binary 1 join 0 ~1; const 2 \"a\"; index 1 ~1 ~2; throw ~1", "-; qwith 1 12 0 0 0 1; -; qfield 1 ~1 0 0 0 2; -; -")
	checkQuick(t, "table 0; const 1 \"a\"; index 1 0 ~1; const 2 \"b\"; binary 1 eq ~1 ~2; if ~1 @end; end: drop 0; drop 1; list 0; return ~0",
		"-; qfield 1 0 0 0 0 1; -; qwith 1 13 ~1 1 0 2; qtest 1 13 ~1 ~2 6 1; -; qdrops 0 2 0 0 0 0; -; -; -")
	// Of several consts the one that stands right ahead; the one ahead of that is its other operand.
	checkQuick(t, "const 0 1; const 1 2; binary 0 add ~0 ~1; throw ~0", "-; qwith 0 1 ~0 1 0 1; -; -")
	checkQuick(t, "const 1 2; const 0 1; binary 0 add ~0 ~1; throw ~0", "-; qwith 0 1 ~1 1 1 0; -; -")
	checkQuick(t, "table 0; const 1 \"a\"; const 2 \"b\"; index 0 0 ~1; throw ~2", "-; -; -; -; -")
	// A const of which two IBinary in a row could make use has a QWith with the first one alone.
	checkQuick(t, "const 0 1; tick; const 1 2; binary 2 add 0 ~1; binary 2 add 0 ~2; throw ~2", "-; -; qwith 2 1 0 1 0 1; -; -; -")
	checkQuick(t, "const 0 1; tick; const 1 2; binary 2 add 0 1; binary 2 add 0 ~1; throw ~2", "-; -; -; -; -; -")
	// A choice behind a choice.
	checkQuick(t, "const 0 1; tick; binary 1 eq 0 0; if ~1 @a; binary 1 ne 0 0; unless ~1 @a; a: throw ~0", "-; -; qtest 1 13 0 0 6 1; -; qtest 1 14 0 0 6 0; -; -")
}

// P7: jumps may lead to the second instruction of two, or into a row: that changes nothing, and the one there is quick by itself.
func TestQuickJumpedInto(t *testing.T) {
	checkQuick(t, "const 0 1; const 1 5; if 0 @b; const 1 2; b: binary 1 add 0 ~1; throw ~1", "-; -; -; qwith 1 1 0 2 0 1; -; -")
	checkQuick(t, "const 0 1; table 1; const 2 7; if 0 @b; drop 2; const 2 \"a\"; b: index 1 ~1 ~2; throw ~1", "-; -; -; -; -; qfield 1 ~1 2 0 0 2; -; -")
	checkQuick(t, "const 0 1; const 2 7; if 0 @b; drop 2; binary 2 lt 0 0; b: if ~2 @end; end: throw ~0", "-; -; -; -; qtest 2 15 0 0 6 1; -; -")
	checkQuick(t, "const 0 1; if 0 @b; drop 1; b: drop 2; c: drop 3; throw ~0", "-; -; qdrops 1 3 0 0 0 0; qdrops 2 2 0 0 0 0; -; -")
	checkQuick(t, "const 0 1; begin: tick; drop 1; drop 2; if 0 @begin; throw ~0", "-; -; qdrops 1 2 0 0 0 0; -; -; -")
	// What catches errors leads there too.
	checkQuick(t, "const 0 1; try @h 1; throw 0; drop 0; h: drop 1; drop 2; throw ~0", "-; -; -; qdrops 0 3 0 0 0 0; qdrops 1 2 0 0 0 0; -; -")
}

// P7: the last instruction of a proto has no next one: what the next proto begins with is none.
func TestQuickLast(t *testing.T) {
	checkNoQuick(t, "begin: tick; jump @begin")
	checkQuick(t, "proto main\nfn 0 f; fn 1 g; throw ~0\nproto f params=1\nthrow ~0\nproto g params=2\ndrop 0; drop 1; list 0; return ~0", "-; -; -", "-", "qdrops 0 2 0 0 0 0; -; -; -")
	checkQuick(t, "proto main\nfn 0 f; drop 0; drop 1; list 0; return ~0\nproto f\ndrop 2; drop 3; list 0; return ~0", "-; qdrops 0 2 0 0 0 0; -; -; -", "qdrops 2 2 0 0 0 0; -; -; -")
	checkIdle(t, "drop 0; drop 1", "qdrops 0 2 0 0 0 0; -")
	checkIdle(t, "const 0 \"a\"", "-")
	checkIdle(t, "binary 0 13 0 0", "-")
}

// P7: the zero value and no listing for a code that is not verified, by each code of CheckShape and CheckCode.
func TestQuickNotVerified(t *testing.T) {
	for told, c := range notVerified(t) {
		before := codeTold(c)
		if got := impl.Prepare(c); len(got.Protos) != 0 || got.Caches != 0 {
			t.Errorf("%s: %v", told, got)
		}
		if got := impl.QuickListing(c); got != "" {
			t.Errorf("%s: listed %s", told, got)
		}
		if codeTold(c) != before {
			t.Errorf("%s: the code has changed", told)
		}
	}
	// One that is full of what would be quick, with a fault at its end alone.
	c := stepsOf("table 0; const 1 \"a\"; index 1 0 ~1; const 2 7; binary 1 eq ~1 ~2; if ~1 @on; on: drop 1; drop 2; throw 1")
	if fault := impl.CheckCode(c); fault != (impl.CodeFault{Code: 10, At: 8}) || impl.CheckShape(c) != (impl.CodeFault{}) {
		t.Fatal(fault)
	}
	if got := impl.Prepare(c); len(got.Protos) != 0 || got.Caches != 0 || impl.QuickListing(c) != "" {
		t.Error(got)
	}
	// Operands that no instruction that is reached can have.
	for _, text := range []string{"const 0 1; binary 1 add ~0 ~0; throw ~1", "const 0 1; binary 1 add ~0 0; throw ~1", "const 0 \"a\"; index 1 ~0 ~0; throw ~1"} {
		if got := impl.Prepare(stepsOf(text)); len(got.Protos) != 0 {
			t.Error(text, got)
		}
	}
}

// quickListed: a code with each quick instruction, registers that are taken, and several protos, and its listing.
func quickListed() (impl.Code, string) {
	c := stepsOf(`proto main
		table 0; const 1 7; const 2 "a"; index 2 ~0 ~2; const 0 7; binary 0 le ~0 ~2; if ~0 @on; tick; on: drop 0; drop 1; drop 2; fn 5 f; list 0; add 0 ~5; return ~0
		proto f params=1
		const 1 "b"; index 1 ~0 ~1; const 2 1.5; binary 2 ge 1 ~2; unless ~2 @end; end: throw ~1`)
	return c, `
0:0 table 0 0 0 0 0 0
0:1 const 1 0 0 0 0 0
0:2 qfield 2 -1 1 0 0 2
0:3 index 2 -1 -3 0 0 0
0:4 qwith 0 16 -3 0 1 0
0:5 qtest 0 16 -1 -3 8 1
0:6 if -1 8 0 0 0 0
0:7 tick 0 0 0 0 0 0
0:8 qdrops 0 3 0 0 0 0
0:9 qdrops 1 2 0 0 0 0
0:10 drop 2 0 0 0 0 0
0:11 fn 5 1 0 0 0 0
0:12 list 0 0 0 0 0 0
0:13 add 0 -6 0 0 0 0
0:14 return -1 0 0 0 0 0
1:0 qfield 1 -1 0 1 0 1
1:1 index 1 -1 -2 0 0 0
1:2 qwith 2 18 1 1 0 2
1:3 qtest 2 18 1 -3 5 0
1:4 unless -3 5 0 0 0 0
1:5 throw -2 0 0 0 0 0
`
}

// P7: a line for each quick instruction, with all of A to F.
func TestQuickListing(t *testing.T) {
	c, want := quickListed()
	if got := impl.QuickListing(c); got != strings.TrimPrefix(want, "\n") {
		t.Errorf("listed\n%s", got)
	}
	if got := prepared(t, "listed", c); got.Caches != 2 {
		t.Error(got)
	}
	if impl.QTest != 43 || impl.QWith != 44 || impl.QField != 45 || impl.QDrops != 46 {
		t.Error("numbers of the quick instructions")
	}
}

// P7: every name of an Op: a code with all of them is listed as ever, but for its rows of IDrop.
func TestQuickListingNames(t *testing.T) {
	want := strings.ReplaceAll(strings.TrimPrefix(everyOpListed, "\n"), "\n", " 0 0\n")
	for from, to := range map[string]string{
		"0:39 drop 5 0 0 0 0 0\n": "0:39 qdrops 5 3 0 0 0 0\n",
		"0:40 drop 6 0 0 0 0 0\n": "0:40 qdrops 6 2 0 0 0 0\n",
		"0:48 drop 5 0 0 0 0 0\n": "0:48 qdrops 5 2 0 0 0 0\n",
	} {
		want = strings.Replace(want, from, to, 1)
	}
	if got := impl.QuickListing(everyOp()); got != want {
		t.Errorf("every Op:\n%s, want\n%s", got, want)
	}
	for op, o := range codeOps {
		if !strings.Contains(want, " "+o.name+" ") {
			t.Error("not listed:", op+1, o.name)
		}
	}
	prepared(t, "every Op", everyOp())
	prepared(t, "guards within guards", guardedCode())
}

// P7: as many instructions and protos as a code may have, all of them with caches.
func TestQuickFullCode(t *testing.T) {
	c := stepsOf("table 0; const 1 \"a\"; index 1 0 ~1; throw ~1")
	pair := c.Protos[0].Ins[1:3]
	c.Protos[0].Ins = slices.Concat(c.Protos[0].Ins[:1], slices.Repeat(pair, 2999), c.Protos[0].Ins[3:])
	q := prepared(t, "6000 instructions", c)
	if q.Caches != 2999 || q.Protos[0].Ins[5997] != (impl.QIns{Op: impl.QField, A: 1, D: 2998, F: 1}) {
		t.Error(q.Caches, q.Protos[0].Ins[5997])
	}
	c.Protos[0].Ins = slices.Insert(c.Protos[0].Ins, 1, pair[0])
	if q := impl.Prepare(c); len(q.Protos) != 0 || q.Caches != 0 || impl.QuickListing(c) != "" {
		t.Error("6001 instructions")
	}
	text := "proto main\ntable 1; fn 0 p1; drop 0; const 0 \"a\"; index 0 ~1 ~0; throw ~0"
	for n := 1; n < 199; n++ {
		text += fmt.Sprintf("\nproto p%d params=2\nfn 2 p%d; const 0 \"a\"; index 0 ~1 ~0; throw ~0", n, n+1)
	}
	text += "\nproto p199 params=2\nconst 0 \"a\"; index 0 ~1 ~0; throw ~0"
	q = prepared(t, "200 protos", stepsOf(text))
	if len(q.Protos) != 200 || q.Caches != 200 || q.Protos[199].Ins[0] != (impl.QIns{Op: impl.QField, B: -2, D: 199}) {
		t.Error(len(q.Protos), q.Caches)
	}
}

// P7: one list of an answer is no piece of another's memory; what is written into one changes no other answer.
func TestQuickSharesNothing(t *testing.T) {
	c, listing := quickListed()
	q := impl.Prepare(c)
	want := plainPrepared(c)
	for n := range q.Protos {
		_ = append(q.Protos[n].Ins, impl.QIns{Op: 9})
	}
	_ = append(q.Protos, impl.QProto{})
	if !reflect.DeepEqual(q, want) {
		t.Error("lists share memory")
	}
	overwriteQuick(q)
	if got := impl.Prepare(c); !reflect.DeepEqual(got, want) || impl.QuickListing(c) != listing[1:] {
		t.Error("a second answer has changed")
	}
	// What is written into the code behind it changes no answer.
	q = impl.Prepare(c)
	overwriteCode(c)
	if !reflect.DeepEqual(q, want) {
		t.Error("the answer has changed with the code")
	}
}

// quickWord: an instruction by chance, of those that the table looks at and some that look like them.
func quickWord(r *rand.Rand) string {
	reg := func() int { return r.Intn(3) }
	operand := func() int { return r.Intn(6) - 3 }
	switch r.Intn(11) {
	case 0, 1, 2:
		return fmt.Sprintf("const %d %s", reg(), []string{"7", `"a"`, `"b"`}[r.Intn(3)])
	case 3, 4:
		return fmt.Sprintf("binary %d %d %d %d", reg(), 11+r.Intn(8), operand(), operand())
	case 5, 6:
		return fmt.Sprintf("index %d %d %d", reg(), operand(), operand())
	case 7:
		return fmt.Sprintf("if %d %d", operand(), r.Intn(5))
	case 8:
		return fmt.Sprintf("unless %d %d", operand(), r.Intn(5))
	case 9:
		return fmt.Sprintf("%s %d", []string{"list", "drop"}[r.Intn(2)], reg())
	}
	return fmt.Sprintf("drop %d", reg())
}

// P7: instructions by chance of which nothing is reached: any two may stand one behind the other.
func TestQuickIdleByChance(t *testing.T) {
	t.Parallel()
	r := rand.New(rand.NewSource(14))
	met := map[int]int{}
	for range 5000 {
		var words []string
		for range 12 {
			words = append(words, quickWord(r))
		}
		text := idle(strings.Join(words, "; "))
		for _, q := range prepared(t, text, stepsOf(text)).Protos[0].Ins {
			met[q.Op]++
		}
	}
	for op := impl.QTest; op <= impl.QDrops; op++ {
		if met[op] < 100 {
			t.Error("op", op, "was met", met[op], "times")
		}
	}
}

// P7: codes by chance, and those of texts by chance, tidied too: each quick instruction leaves what those that it stands for leave.
func TestQuickByChance(t *testing.T) {
	t.Parallel()
	met := map[int]int{}
	for seed := range int64(40) {
		told := fmt.Sprint("seed ", seed)
		if u, ok := unitByChance(seed); ok {
			c := impl.Compile(u).Made
			checkQuickTypes(t, told, c, met)
			checkQuickTypes(t, told, impl.Tidy(c), met)
		}
		g := grownCodes(seed)
		for i := range 200 {
			c := withChance(g.Rand, g.next())
			if fault, _ := plainVerified(c); fault.Code != 0 {
				if q := impl.Prepare(c); len(q.Protos) != 0 || q.Caches != 0 || impl.QuickListing(c) != "" {
					t.Fatalf("%s: %v of\n%s", told, fault, codeTold(c))
				}
			} else if i%10 == 0 {
				checkQuickTypes(t, told, c, met)
			}
		}
	}
	for op := impl.QTest; op <= impl.QDrops; op++ {
		if met[op] < 20 {
			t.Error("op", op, "was met", met[op], "times")
		}
	}
}
