package tests

import (
	"fmt"
	"math/rand"
	"slices"
	"strings"
	"testing"

	"loop.example/heddle/impl"
)

// P5: codes by chance, verified or nearly so, have the faults and states that the plain verifier tells.
func TestCodesByChance(t *testing.T) {
	met := make([]int, 15)
	for seed := range 40 {
		g := grownCodes(int64(seed))
		for range 150 {
			met[checkPlainCode(t, fmt.Sprint("seed ", seed), g.next()).Code]++
		}
	}
	for _, code := range []int{0, 5, 6, 7, 10, 11, 12, 13, 14} {
		if met[code] < 5 {
			t.Error("code", code, "was met", met[code], "times")
		}
	}
}

// P5: code 14: rings by chance, one within the other, sharing instructions, reached or not.
func TestRingsByChance(t *testing.T) {
	const begin = "const 0 0; const 1 0; const 2 0; const 3 0; each 3; list 5; "
	r := rand.New(rand.NewSource(5))
	met := make([]int, 30)
	for range 4000 {
		size := 2 + r.Intn(14)
		text := begin
		for i := range size {
			to := 6 + r.Intn(size)
			words := []string{"at 1", "tick", "binary 1 12 0 0", "binary 1 1 0 0", "jump %d", "jump %d", "if 0 %d", "if 0 %d", "unless 0 %d", "unless 0 %d",
				"fortest 0 %d", "fornext 0 %d", "eachnext 3 %d 5", "throw 0"}
			if word := words[r.Intn(len(words))]; strings.Contains(word, "%d") {
				text += fmt.Sprintf(word, to) + "; "
			} else {
				text += word + "; "
			}
			if i == size-1 {
				text += fmt.Sprintf("jump %d", to)
			}
		}
		f := checkPlainCode(t, text, codeOf(6, text))
		if f.Code != 0 && f.Code != 14 {
			t.Fatal(text, f)
		}
		met[f.At]++
	}
	if met[0] < 200 || met[6] < 200 || met[7] < 200 || met[12] < 10 {
		t.Error("too little was met:", met)
	}
}

// compiledByChance: the code of a text by chance; false when it has none, or more than a code may have.
func compiledByChance(seed int64) (impl.Code, bool) {
	bound := impl.Bind(impl.Grow(impl.Parse(randomText(seed)).Sheet))
	if bound.Code != 0 {
		return impl.Code{}, false
	}
	c := plainCompiled(bound.Unit)
	return c, plainShape(c).Code == 0
}

// P5: code that was compiled is verified; with one field of it changed, the faults are those that the plain verifier tells.
func TestCompiledCodesByChance(t *testing.T) {
	t.Parallel()
	for seed := range int64(20) {
		c, ok := compiledByChance(seed)
		if !ok {
			continue
		}
		checkCodeFault(t, fmt.Sprint("compiled ", seed), c, impl.CodeFault{})
		r := rand.New(rand.NewSource(seed))
		for range 4 {
			spoiled := copiedCode(c)
			p := &spoiled.Protos[r.Intn(len(c.Protos))]
			at := r.Intn(len(p.Ins))
			n := r.Intn(4)
			p.Ins[at] = withField(p.Ins[at], n, codeFields(p.Ins[at])[n]+r.Intn(5)-2)
			checkPlainCode(t, fmt.Sprint("compiled and spoiled ", seed), spoiled)
		}
	}
}

// checkNeverStuck: a run of verified code on the plain machine finds, ahead of each instruction, the types and guards that States
// tells, and does not go on for long without a tick.
func checkNeverStuck(t *testing.T, told string, c impl.Code, in impl.Input) {
	t.Helper()
	all := statesOf(c)
	if all == nil {
		t.Fatalf("%s: not verified\n%s", told, codeTold(c))
	}
	size := 0
	for _, states := range all {
		size += len(states)
	}
	m := plainMachineOf(c, in)
	steps := 0
	ticks := 0
	m.ahead = func(f *plainFrame) {
		if m.rep.Ticks != ticks {
			steps, ticks = 0, m.rep.Ticks
		}
		s := all[f.proto][f.at]
		var types []int
		for _, r := range f.regs {
			types = append(types, max(0, slices.Index([]string{"", "value", "box", "list"}, r.kind)))
		}
		var guards []impl.Guard
		for _, g := range f.guards {
			guards = append(guards, impl.Guard{Try: g.try, Keep: g.keep, Handler: g.handler})
		}
		steps++
		if !s.Reached || !slices.Equal(types, s.Types) || !slices.Equal(guards, s.Guards) || steps > size*100 {
			t.Fatalf("%s: proto %d at %d: %v %v in step %d, States tells %v\n%s", told, f.proto, f.at, types, guards, steps, s, codeTold(c))
		}
	}
	m.run()
}

// P5: what the verifier lets through never gets stuck.
func TestVerifiedNeverStuck(t *testing.T) {
	t.Parallel()
	in := impl.Input{Args: []string{"a", "b"}, Lines: []string{"l"}, Ticks: 2000, Depth: 20, Cells: 500}
	checkNeverStuck(t, "every Op", everyOp(), in)
	checkNeverStuck(t, "guards within guards", guardedCode(), in)
	for seed := range int64(60) {
		if c, ok := compiledByChance(seed); ok {
			checkNeverStuck(t, fmt.Sprint("compiled ", seed), c, in)
		}
		g := grownCodes(seed)
		for range 300 {
			g.next()
		}
		checkNeverStuck(t, fmt.Sprint("by chance ", seed), g.code, in)
	}
}
