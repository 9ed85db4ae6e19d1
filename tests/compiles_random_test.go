package tests

import (
	"fmt"
	"math/rand"
	"strings"
	"testing"

	"loop.example/heddle/impl"
)

// checkSameRuns: the code of a unit, and the same tidied, answer as the unit does, with the numbers of fns and protos the same; with
// looks at some thirty records, too.
func checkSameRuns(t *testing.T, told string, u impl.Unit, in impl.Input, looks bool) bool {
	t.Helper()
	code := compiled(t, told, u)
	want := impl.Run(u, in)
	for how, c := range map[string]impl.Code{"compiled": code, "tidied": tidyCode(t, told, code)} {
		if got := impl.RunCode(c, in); !sameReport(got, want) {
			t.Errorf("%s: %s: %d records, %+v, want %d, %+v\n%s", told, how, len(got.Recs), withoutRecs(got), len(want.Recs), withoutRecs(want), codeTold(c))
			return false
		}
		for k := 0; looks && k < len(want.Recs); k += 1 + len(want.Recs)/30 {
			if got, wanted := impl.LookCode(c, in, k), impl.Look(u, in, k); !sameView(got, wanted) {
				t.Errorf("%s: %s: at record %d: %s, want %s\n%s", told, how, k, viewTold(got), viewTold(wanted), codeTold(c))
				return false
			}
		}
	}
	return true
}

// unitByChance: the unit of a text by chance, of some its nodes and variables in another order, of some folded; false when there is none,
// or its code would be too large.
func unitByChance(seed int64) (impl.Unit, bool) {
	bound := impl.Bind(impl.Grow(impl.Parse(randomText(seed)).Sheet))
	if bound.Code != 0 {
		return impl.Unit{}, false
	}
	u := bound.Unit
	r := rand.New(rand.NewSource(seed))
	switch seed % 4 {
	case 1:
		u = renumbered(r, shuffled(r, u))
	case 2:
		u = impl.Fold(u)
	}
	return u, plainShape(plainCompiled(u)).Code == 0
}

// P6: the code of texts by chance is the plain compiler's, is verified, and does what the unit does; so does what Tidy makes of it.
func TestCompileByChance(t *testing.T) {
	const workers, each = 8, 50
	for n := range int64(workers) {
		t.Run("", func(t *testing.T) {
			t.Parallel()
			for seed := 20000 + n*each; seed < 20000+(n+1)*each; seed++ {
				in := randomInput(seed)
				in.Ticks = min(in.Ticks, 4000)
				if u, ok := unitByChance(seed); ok && !checkSameRuns(t, fmt.Sprint("text ", seed), u, in, seed%8 == 0) {
					return
				}
			}
		})
	}
}

// P6: trees by chance, with every kind of part where it may stand.
func TestCompileTreesByChance(t *testing.T) {
	t.Parallel()
	count := 0
	for seed := range int64(400) {
		bound := impl.Bind(boundTree(seed, 0))
		if bound.Code != 0 {
			continue
		}
		if plainShape(plainCompiled(bound.Unit)).Code != 0 {
			checkCompileCode(t, fmt.Sprint("tree ", seed), bound.Unit, 2)
			continue
		}
		count++
		tidyCode(t, fmt.Sprint("tree ", seed), compiled(t, fmt.Sprint("tree ", seed), bound.Unit))
	}
	if count < 200 {
		t.Error("only", count, "trees have code")
	}
}

// P6: units with a fault by chance have Code 1 and nothing else, those that are still valid have the plain code.
func TestCompileSpoiledByChance(t *testing.T) {
	t.Parallel()
	met := map[int]int{}
	r := rand.New(rand.NewSource(13))
	for seed := range int64(40) {
		ground, ok := unitByChance(seed)
		if !ok {
			continue
		}
		for range 10 {
			u := copiedUnit(ground)
			spoilUnit(r, &u)
			told := fmt.Sprint("spoiled ", seed)
			switch {
			case impl.CheckUnit(u).Code != 0:
				met[1]++
				checkCompileCode(t, told, u, 1)
				for f := -1; f <= len(u.Fns); f++ {
					if len(impl.Captured(u, f)) != 0 || len(impl.Homes(u, f)) != 0 {
						t.Error(told, f)
					}
				}
			default:
				met[0]++
				compiled(t, told, u)
			}
		}
	}
	if met[0] < 50 || met[1] < 50 {
		t.Error("too little was met:", met)
	}
}

// jumpy: a code of jumps, choices, ticks, guards and fns by chance, all of which meet with the same registers; most of it is verified.
func jumpy(r *rand.Rand) impl.Code {
	size := 3 + r.Intn(14)
	var b strings.Builder
	b.WriteString("proto main regs=9\nconst 0 1; const 1 1; const 2 1")
	if r.Intn(2) == 0 {
		b.Reset()
		b.WriteString("proto main regs=9\njump @i; i: const 0 1; const 1 1; const 2 1")
	}
	for i := range size {
		fmt.Fprintf(&b, "\nl%d: ", i)
		to := r.Intn(size)
		if r.Intn(3) > 0 {
			to = min(size-1, i+1+r.Intn(2))
		}
		switch n := r.Intn(20); {
		case n < 8:
			fmt.Fprintf(&b, "jump @l%d", to)
		case n < 11:
			fmt.Fprintf(&b, "%s 0 @l%d", []string{"if", "unless"}[r.Intn(2)], to)
		case n < 12:
			fmt.Fprintf(&b, "%s 0 @l%d", []string{"fortest", "fornext"}[r.Intn(2)], to)
		case n < 14:
			b.WriteString("tick")
		case n < 15:
			b.WriteString("throw 0")
		case n < 18:
			// Its handler is on the way that others go as well, with the same registers.
			fmt.Fprintf(&b, "try @l%d 1; tick; endtry; const 3 1; drop 3", to)
		default:
			b.WriteString("line 2")
		}
	}
	b.WriteString("\njump @l0")
	for range r.Intn(4) {
		from := r.Intn(size)
		fmt.Fprintf(&b, "\nvar v %d %d %d", r.Intn(9), from, from+r.Intn(size-from+1))
	}
	return stepsOf(b.String())
}

// P6: codes of jumps by chance are tidied plainly, do the same, and once tidied stay as they are.
func TestTidyJumpsByChance(t *testing.T) {
	t.Parallel()
	r := rand.New(rand.NewSource(9))
	count, shorter := 0, 0
	in := impl.Input{Ticks: 60, Depth: 9, Cells: 99}
	for range 6000 {
		c := jumpy(r)
		if impl.CheckCode(c).Code != 0 {
			if len(impl.Tidy(c).Protos) != 0 {
				t.Fatal("not verified\n", codeTold(c))
			}
			continue
		}
		count++
		got := checkTidySame(t, "jumps", c, in)
		if len(got.Protos[0].Ins) < len(c.Protos[0].Ins)-2 {
			shorter++
		}
	}
	if count < 300 || shorter < 100 {
		t.Error("too little was met:", count, shorter)
	}
}

// checkTidySame: what is tidied is tidied plainly, does the same at every record, and stays as it is when it is tidied again.
func checkTidySame(t *testing.T, told string, c impl.Code, in impl.Input) impl.Code {
	t.Helper()
	got := tidyCode(t, told, c)
	if again := impl.Tidy(got); codeTold(again) != codeTold(got) {
		t.Fatalf("%s: again\n%s, want\n%s", told, codeTold(again), codeTold(got))
	}
	want := impl.RunCode(c, in)
	if ran := impl.RunCode(got, in); !sameReport(ran, want) {
		t.Fatalf("%s: %+v, want %+v\n%s\nof\n%s", told, ran, want, codeTold(got), codeTold(c))
	}
	for k := range min(len(want.Recs), 40) {
		if a, b := impl.LookCode(got, in, k), impl.LookCode(c, in, k); !sameView(a, b) {
			t.Fatalf("%s: at record %d %s, want %s\n%s\nof\n%s", told, k, viewTold(a), viewTold(b), codeTold(got), codeTold(c))
		}
	}
	return got
}

// P6: codes that were grown by chance, and those full of guards, tidied.
func TestTidyCodesByChance(t *testing.T) {
	t.Parallel()
	for seed := range int64(40) {
		in := randomInput(seed)
		in.Ticks = min(in.Ticks, 60)
		g := grownCodes(seed)
		for i := range 200 {
			g.next()
			if i%20 == 0 {
				checkTidySame(t, fmt.Sprint("grown ", seed), withChance(g.Rand, g.code), in)
			}
		}
		if c := stepsOf(guardText(seed)); impl.CheckCode(c).Code == 0 {
			checkTidySame(t, fmt.Sprint("guards ", seed), c, in)
		}
	}
}
