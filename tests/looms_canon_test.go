package tests

import (
	"fmt"
	"slices"
	"strings"
	"testing"

	"loop.example/heddle/impl"
)

// bornOf: the slots of a machine in its form without places, by what was made as the how manyth.
func bornOf(m impl.Machine) string {
	var born []string
	for _, s := range m.Slots {
		born = append(born, fmt.Sprint(string(".tfb"[s.Kind]), s.Born))
	}
	return strings.Join(born, " ")
}

// checkCanon: the order in which the slots are met behind n moves, at every pace; all of it is the plain machine's.
func checkCanon(t *testing.T, text string, n int, want string) {
	t.Helper()
	c := stepsOf(text)
	ranCode(t, text, c, plenty())
	for pace := range 5 {
		if got := bornOf(impl.Canon(c, plenty(), pace, n)); got != want {
			t.Errorf("%s\nbehind %d at pace %d: %s, want %s\n%s", text, n, pace, got, want, machineTold(impl.Stand(c, plenty(), pace, n)))
		}
	}
	checkLoom(t, text, c, plenty(), 1000, 0, 1, 2)
}

// P7: registers in order: values, elements of lists, boxes with what is in them at once; a box within a list's fn, a box that two have.
func TestLoomCanonRegisters(t *testing.T) {
	// Made from the last register to the first: 1 in register 3, 2 and 3 in a list, 4 in a box, 6 in register 0.
	checkCanon(t, "table 3; list 2; table 4; add 2 ~4; table 4; add 2 ~4; table 1; box 1 ~1; table 0; tick; give 5", 9, "t6 b5 t4 t2 t3 t1")
	// What was met already is not met again.
	checkCanon(t, "table 2; move 1 2; list 0; add 0 2; add 0 2; table 3; tick; give 5", 6, "t1 t2")
	checkCanon(t, "table 1; box 0 1; table 2; tick; give 5", 3, "b2 t1 t3")
	// A fn comes into the line: its boxes come behind all registers, and with each what it holds, ahead of the next.
	text := "proto main\ntable 2; box 2 ~2; table 3; box 3 ~3; fn 0 f; drop 2; drop 3; table 1; tick; give 5\nproto f ups=r3,r2\ngive 0"
	checkCanon(t, text, 7, "f5 t6 b4 t3 b2 t1")
	// The boxes of two fns, one of them both have; a fn in a box of a fn.
	checkCanon(t, "proto main\nconst 2 nil; box 2 ~2; const 3 nil; box 3 ~3; fn 0 f; fn 1 g; put 2 0; drop 2; drop 3; tick; give 5\nproto f ups=r2\ngive 0\nproto g ups=r3,r2\ngive 0", 9, "f3 f4 b1 b2")
	checkCanon(t, "proto main\ntable 0; box 0 ~0; fn 1 f; box 1 ~1; drop 0; table 2; fn 0 g; drop 1; tick; give 5\nproto f ups=r0\ngive 0\nproto g ups=r1\ngive 0", 9, "f6 t5 b4 f3 b2 t1")
}

// P7: tables in the line: the kind, then of each pair the key and the value; from the beginning of the line.
func TestLoomCanonTables(t *testing.T) {
	// 1 is the kind of 5, 2 and 3 its pair, 4 the value of another one.
	checkCanon(t, "table 1; table 2; table 3; table 4; table 0; raw 0 ~2 ~3; const 5 1; raw 0 5 ~4; one 6 setkind ~0 ~1; tick; give 7", 15, "t5 t1 t2 t3 t4")
	// Two tables with pairs: those of the first, those of the second, then what these reach.
	checkCanon(t, "const 9 1; table 2; table 3; table 4; raw 3 9 ~4; table 0; table 1; raw 0 9 ~2; raw 1 9 ~3; tick; give 10", 9, "t4 t5 t1 t2 t3")
	// In the order in which the pairs came, the last one's key ahead of its value.
	checkCanon(t, "table 1; table 2; table 3; table 0; const 4 2; const 5 1; raw 0 4 2; raw 0 5 1; raw 0 3 3; raw 0 1 3; drop 1; drop 2; drop 3; tick; give 6", 12, "t4 t2 t1 t3")
	// A ring.
	checkCanon(t, "table 1; table 0; const 2 1; raw 0 2 1; raw 1 2 0; drop 1; tick; give 3", 6, "t2 t1")
}

// P7: the running task, then the one that waits for it; frames from the outermost, each with its fn first; what guards keep behind the
// values of a return, and those behind the registers; what is given and on its way; what wants a last word.
func TestLoomCanonHands(t *testing.T) {
	// Frames: the text's own call has no fn.
	checkCanon(t, "proto main\ntable 1; fn 0 f; do 2 r0 ~1; return 2\nproto f params=1\ntable 1; fn 2 g; do 3 r2 r1; tick; return 3\nproto g params=1\ntable 1; tick; give 2", 14, "f2 t1 t3 f4 t5")
	// Fences: 2 and 3 are kept by the outer guard, 4 by the inner one, 5 is being returned, 6 is in a register below the Keep.
	text := "table 9; scope 1; table 1; table 2; later 3 read ~1 ~2; scope 1; table 1; later 2 read ~1; list 1; table 2; add 1 ~2; table 0; tick; return ~1"
	leaving := slices.IndexFunc(courseOf(stepsOf(text), plenty()), func(moment string) bool { return strings.HasSuffix(moment, "!return") })
	checkCanon(t, text, leaving, "t6 t1 t5 t2 t3 t4")
	// The inner one's defer is being called, then its guard is off.
	checkCanon(t, text, leaving+1, "t6 t5 t2 t3")
	checkCanon(t, text, leaving+2, "t6 t5 t2 t3")
	// Given, with the frames gone.
	checkCanon(t, "table 1; table 0; list 2; add 2 ~0; add 2 ~1; return ~2", 7, "t2 t1")
	// An error on its way, behind what stands in registers.
	checkCanon(t, "table 1; table 0; tick; throw ~1", 4, "t2 t1")
	// Those that want a last word, by their making: at pace 1 the first of them, 4, has a slot above that of the second, 6. They come behind
	// what is on its way, their kind in the line.
	last := "proto main\ntable 0; fn 5 f; table 6; const 1 \"last\"; raw 6 ~1 ~5; table 1; drop 0; table 3; table 2; one 4 setkind ~2 r6; one 4 setkind ~1 ~6; drop 4; table 3; table 4; throw ~4\nproto f\ngive 0"
	thrown := slices.IndexFunc(courseOf(stepsOf(last), plenty()), func(moment string) bool { return strings.Contains(moment, "way error") })
	checkCanon(t, last, thrown, "t7 t8 t4 t6 t3 f2")
	if m := impl.Stand(stepsOf(last), plenty(), 1, thrown); m.Slots[0].Born != 6 || m.Slots[3].Born != 4 {
		t.Error(machineTold(m))
	}
	// A collect's tables and fns, ahead of what the calls above it hold.
	told := "proto main\nfn 5 f; table 6; const 1 \"last\"; raw 6 ~1 ~5; table 1; table 2; one 4 setkind ~2 r6; one 4 setkind ~1 ~6; drop 4; table 0; do 1 collect; return 1\nproto f params=1\ntable 1; tick; give 2"
	spoken := slices.IndexFunc(courseOf(stepsOf(told), plenty()), func(moment string) bool { return strings.HasSuffix(moment, "K1 c1") })
	checkCanon(t, told, spoken, "t5 t3 f1 t4 t6 t2")
}

// P7: tasks that wait for one another come first, tasks in the line when their turn comes: a new one's fn, a waiting one's frames.
func TestLoomCanonTasks(t *testing.T) {
	// Task 1 runs, with a table; the text waits for it, with tables and a task 2 that is new.
	text := "proto main\ntable 3; fn 0 g; one 1 task ~0; fn 0 f; one 2 task ~0; table 0; do 4 resume r2; drop 4; table 4; tick; give 5\nproto g\ngive 0\nproto f\ntable 0; tick; do 1 yield; give 2"
	c := stepsOf(text)
	at := func(moment string, nth int) int {
		for n, m := range courseOf(c, plenty()) {
			if m == moment {
				if nth--; nth == 0 {
					return n
				}
			}
		}
		panic(moment)
	}
	checkCanon(t, text, at("task 2: c1", 1), "f3 t5 t4 f2")
	// Task 2 waits, and is met in the line behind task 1.
	checkCanon(t, text, at("c22", 1), "t4 t6 f2 f3 t5")
	// Lost: nothing of it is met.
	lost := "proto main\nfn 0 f; one 1 task ~0; table 2; drop 1; table 1; tick; give 3\nproto f\ngive 0"
	checkCanon(t, lost, 9, "t3 t2")
	if k := impl.Canon(stepsOf(lost), plenty(), 0, 9).Tasks[1]; taskTold(k) != "lost" {
		t.Error(taskTold(k))
	}
	if k := impl.Stand(stepsOf(lost), plenty(), 0, 9).Tasks[1]; taskTold(k) != "new of f0" {
		t.Error(taskTold(k))
	}
}

// P7: Canon whole: all that names a slot names the new one, Pace and Due are 0, all else is as it stands.
func TestLoomCanonWhole(t *testing.T) {
	text := `proto main
table 0; table 0; const 1 nil; box 1 ~1; fn 2 f; put 1 2; const 3 "k"; table 4; raw 4 3 2; one 5 setkind r0 ~4; raw 0 2 5; drop 5; scope 4; later 4 r2 r0; list 4; add 4 0; add 4 2; table 5; throw ~5
proto f ups=r1
give 0`
	c := stepsOf(text)
	n := slices.IndexFunc(courseOf(c, plenty()), func(moment string) bool { return strings.HasSuffix(moment, "!error") })
	want := strings.TrimSpace(strings.ReplaceAll(`
		pace 0 due 0 births 6 vers 6 moves 28 since 8
		0: table born 2 ver 5 of 4 turns 1 1:f2=t0
		1: box born 3 f2
		2: fn born 4 proto 1 up 1
		3: table born 6 ver 6 of -1
		4: table born 5 ver 4 of -1 turns 1 1:"k"=f2
		task 0 running
		  code at 26 leaving way error t3 at main:0
		    value t0, box 1, value f2, value "k", list t0 f2, nothing, nothing
		    scope keep 4 defer 0 f2 t0
		rep throw 0.0:0 table; gives ticks 1 made 8`, "\n\t\t", "\n"))
	for pace := range 4 {
		if got := machineTold(impl.Canon(c, plenty(), pace, n)); got != want {
			t.Errorf("pace %d: %s\nwant\n%s", pace, got, want)
		}
	}
	checkCanon(t, text, n, "t2 b3 f4 t6 t5")
}

// P7: at the same move Canon is the same at every pace, whatever stands where.
func TestLoomCanonAtEveryPace(t *testing.T) {
	t.Parallel()
	for told, c := range loomCodes(t) {
		moves := impl.Moves(c, loomInput())
		for n := 0; n <= moves; n += 1 + moves/60 {
			want := machineTold(impl.Canon(c, loomInput(), 0, n))
			for _, pace := range []int{1, 2, 3, 5, 20, impl.MaxPace} {
				if got := machineTold(impl.Canon(c, loomInput(), pace, n)); got != want {
					t.Fatalf("%s behind %d at pace %d:\n%s\nwant\n%s", told, n, pace, got, want)
				}
			}
		}
	}
}

func loomInput() impl.Input {
	return impl.Input{Args: []string{"a", "b"}, Lines: []string{"one", "two", "three"}, Ticks: 900, Depth: 12, Cells: 400}
}

// loomCodes: codes of texts with a bit of everything, as they are compiled and tidied.
func loomCodes(t *testing.T) map[string]impl.Code {
	t.Helper()
	codes := map[string]impl.Code{}
	for name, text := range map[string]string{
		"lists":  "let l = {}\nfor i = 1, 12 {l[i] = {i, fn() {return i}}}\nlet s = 0\nfor k, v in l {s = s + k + v[2]()}\nprint(s, #l)\nl = nil\nprint(collect())",
		"errors": "let kept = {}\nfor i = 1, 5 {\ntry {defer print(\"out\", i)\nlet t = {i}\nif i % 2 == 0 {throw t}\nprint(t[1], nil + 1)} catch e, w {kept[i] = e; print(w)}\n}\nprint(#kept, cells())",
		"tasks":  "fn gen(n) {return task(fn(a) {defer print(\"gone\", n); for i = 1, n {a = yield(i, {a})}; return \"end\"})}\nlet a, b = gen(3), gen(2)\nfor i = 1, 4 {print(resume(a, i)); if status(b) == \"new\" or status(b) == \"waiting\" {print(resume(b))}}\nlet c = gen(9)\nresume(c)\nprint(giveup(c))\ngen(4)\nc = gen(5)\nresume(c)\nc = nil\nprint(collect())",
		"kinds":  "let k = {.add = fn(a, b) {return setkind({.n = a.n + b.n}, kind(a))}, .index = fn(t, n) {return n}, .eq = fn(a, b) {return a.n == b.n}, .call = fn(t, x) {return x, t.n}, .len = fn() {return 7}}\nlet a = setkind({.n = 1}, k)\nfor i = 1, 6 {a = a + a; print(a.n, a.other, a == setkind({.n = 4}, k), #a, a(i))}",
		"last":   "let told = 0\nlet k = {.last = fn(t) {told = told + 1; if told < 5 {setkind({.n = told}, kind(t))}; if told == 3 {throw \"no\"}}}\nfor i = 1, 3 {setkind({.n = i}, k)}\nprint(collect(), told)\nlet w = setkind({}, {.weak = \"kv\"})\nfor i = 1, 4 {w[{}] = i; w[i] = {}}\nprint(#w, collect(), #w)",
	} {
		c := compiled(t, name, boundText(t, text))
		codes[name], codes[name+" tidied"] = c, impl.Tidy(c)
	}
	return codes
}
