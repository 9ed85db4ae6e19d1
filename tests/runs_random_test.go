package tests

import (
	"math/rand"
	"reflect"
	"testing"

	"loop.example/heddle/impl"
)

// checkRunPlain: a run against the plain machine; with looks at every record, too.
func checkRunPlain(t *testing.T, text string, u impl.Unit, in impl.Input, looks bool) bool {
	t.Helper()
	want, views := plainRun(u, in, looks)
	got := impl.Run(u, in)
	for k := range min(len(want.Recs), len(got.Recs)) {
		if got.Recs[k] != want.Recs[k] {
			t.Errorf("%s\n%+v: record %d: %+v, want %+v", text, in, k, got.Recs[k], want.Recs[k])
			return false
		}
	}
	if !sameReport(got, want) {
		t.Errorf("%s\n%+v: %d records, %+v, want %d, %+v", text, in, len(got.Recs), withoutRecs(got), len(want.Recs), withoutRecs(want))
		return false
	}
	for k, view := range views {
		if got := impl.Look(u, in, k); !sameView(got, view) {
			t.Errorf("%s\n%+v: at record %d %+v: %+v, want %+v", text, in, k, want.Recs[k], got, view)
			return false
		}
	}
	return true
}

func withoutRecs(r impl.Report) impl.Report {
	r.Recs = nil
	return r
}

func sameReport(a, b impl.Report) bool {
	for _, r := range []*impl.Report{&a, &b} {
		r.Recs = append([]impl.Rec{}, r.Recs...)
		r.Vals = append([]string{}, r.Vals...)
	}
	return reflect.DeepEqual(a, b)
}

func sameView(a, b impl.View) bool {
	if a.Ok != b.Ok || a.Task != b.Task || len(a.Calls) != len(b.Calls) {
		return false
	}
	for i := range a.Calls {
		c, d := a.Calls[i], b.Calls[i]
		if c.Fn != d.Fn || c.Line != d.Line || len(c.Vars) != len(d.Vars) {
			return false
		}
		for j := range c.Vars {
			if c.Vars[j] != d.Vars[j] {
				return false
			}
		}
	}
	return true
}

// checkRunSeed: the text of a seed, when it has a unit, against the plain machine.
func checkRunSeed(t *testing.T, seed int64, looks bool) bool {
	t.Helper()
	text := randomText(seed)
	parsed := impl.Parse(text)
	if parsed.Code != 0 {
		t.Fatalf("%s: code %d at %d", text, parsed.Code, parsed.At)
	}
	b := impl.Bind(impl.Grow(parsed.Sheet))
	if b.Code != 0 {
		return true
	}
	u := b.Unit
	if r := rand.New(rand.NewSource(seed)); seed%4 == 0 {
		u = renumbered(r, shuffled(r, u))
	}
	return checkRunPlain(t, text, u, randomInput(seed), looks)
}

// P4: what a unit's run answers is what its code does, step by step; at each record the same can be seen.
func TestRunsByChance(t *testing.T) {
	const workers, each = 8, 250
	for n := range int64(workers) {
		t.Run("", func(t *testing.T) {
			t.Parallel()
			for seed := n * each; seed < (n+1)*each; seed++ {
				if !checkRunSeed(t, seed, seed%6 == 0) {
					return
				}
			}
		})
	}
}

// P4: the order and the numbers of nodes and variables say nothing, but for the order in which variables are shown.
func TestRunsByKidsAlone(t *testing.T) {
	text := "let a, b, c = 1, 2, 3\nfn f(x, y) {\nlet d, e = x + y, b\nfor i = 1, 2 {try {throw d + i} catch g, h {print(g, h, e, c)}}\nreturn fn() {d = d + 1; return d, e, a}\n}\nprint(f(5, 6)())"
	u := boundText(t, text)
	want := impl.Run(u, plenty())
	r := rand.New(rand.NewSource(1))
	for range 50 {
		other := renumbered(r, shuffled(r, u))
		if got := ranUnit(t, text, other, plenty()); !sameReport(got, want) {
			t.Errorf("%s: %+v, want %+v", unitTold(other), got, want)
		}
	}
	u = boundText(t, "let a, b = 1, 2\nlet c = 3\nprint(c)")
	for i, v := range []int{2, 0, 1} {
		u.Fns[0].Vars[v] = []string{"a", "b", "c"}[i]
	}
	for n, node := range u.Fns[0].Nodes {
		for i, v := range node.Refs {
			u.Fns[0].Nodes[n].Refs[i] = []int{2, 0, 1}[v]
		}
	}
	if got := viewTold(impl.Look(u, plenty(), 3)); got != "task 0, 0:3 b=2 c=3 a=1" {
		t.Error(got)
	}
}
