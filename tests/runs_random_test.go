package tests

import (
	"reflect"
	"testing"

	"loop.example/heddle/impl"
)

// checkRunPlain: a run against the plain machine; with looks at every record, too.
func checkRunPlain(t *testing.T, text string, u impl.Unit, in impl.Input, looks bool) bool {
	t.Helper()
	want, views := plainRun(u, in, looks)
	got := impl.Run(u, in)
	for k := range min(len(want.Recs), len(got.Recs)) {
		if got.Recs[k] != want.Recs[k] {
			t.Errorf("%s\n%+v: record %d: %+v, want %+v", text, in, k, got.Recs[k], want.Recs[k])
			return false
		}
	}
	if !sameReport(got, want) {
		t.Errorf("%s\n%+v: %d records, %+v, want %d, %+v", text, in, len(got.Recs), withoutRecs(got), len(want.Recs), withoutRecs(want))
		return false
	}
	for k, view := range views {
		if got := impl.Look(u, in, k); !sameView(got, view) {
			t.Errorf("%s\n%+v: at record %d %+v: %+v, want %+v", text, in, k, want.Recs[k], got, view)
			return false
		}
	}
	return true
}

func withoutRecs(r impl.Report) impl.Report {
	r.Recs = nil
	return r
}

func sameReport(a, b impl.Report) bool {
	for _, r := range []*impl.Report{&a, &b} {
		r.Recs = append([]impl.Rec{}, r.Recs...)
		r.Vals = append([]string{}, r.Vals...)
	}
	return reflect.DeepEqual(a, b)
}

func sameView(a, b impl.View) bool {
	if a.Ok != b.Ok || a.Task != b.Task || len(a.Calls) != len(b.Calls) {
		return false
	}
	for i := range a.Calls {
		c, d := a.Calls[i], b.Calls[i]
		if c.Fn != d.Fn || c.Line != d.Line || len(c.Vars) != len(d.Vars) {
			return false
		}
		for j := range c.Vars {
			if c.Vars[j] != d.Vars[j] {
				return false
			}
		}
	}
	return true
}

// checkRunSeed: the text of a seed, when it has a unit, against the plain machine.
func checkRunSeed(t *testing.T, seed int64, looks bool) bool {
	t.Helper()
	text := randomText(seed)
	parsed := impl.Parse(text)
	if parsed.Code != 0 {
		t.Fatalf("%s: code %d at %d", text, parsed.Code, parsed.At)
	}
	b := impl.Bind(impl.Grow(parsed.Sheet))
	return b.Code != 0 || checkRunPlain(t, text, b.Unit, randomInput(seed), looks)
}

// P4: what a unit's run answers is what its code does, step by step; at each record the same can be seen.
func TestRunsByChance(t *testing.T) {
	const workers, each = 8, 250
	for n := range int64(workers) {
		t.Run("", func(t *testing.T) {
			t.Parallel()
			for seed := n * each; seed < (n+1)*each; seed++ {
				if !checkRunSeed(t, seed, seed%10 == 0) {
					return
				}
			}
		})
	}
}
