package tests

import (
	"fmt"
	"slices"
	"strings"
	"testing"

	"loop.example/heddle/impl"
)

func plenty() impl.Input {
	return impl.Input{Ticks: impl.MaxTicks, Depth: impl.MaxDepth, Cells: impl.MaxCells}
}

// ranUnit: the report of a unit; it is what the plain machine answers too, and what the unit's code does when it is stepped and on the
// machine with its slots at every pace; at each record it can be seen what stands there, and nothing is written into the unit or the
// input.
func ranUnit(t *testing.T, told string, u impl.Unit, in impl.Input) impl.Report {
	t.Helper()
	before := copiedUnit(u)
	args, lines := slices.Clone(in.Args), slices.Clone(in.Lines)
	r := impl.Run(u, in)
	checkRunPlain(t, told, u, in, len(r.Recs) < 300)
	if c := plainCompiled(u); plainShape(c).Code == 0 {
		checkStepsPlain(t, told, c, in, false)
		checkSameRuns(t, told, u, in, false)
	}
	if !sameUnit(u, before) || !slices.Equal(in.Args, args) || !slices.Equal(in.Lines, lines) {
		t.Errorf("%s: what was given has changed", told)
	}
	return r
}

func ranText(t *testing.T, text string, in impl.Input) impl.Report {
	t.Helper()
	return ranUnit(t, text, boundText(t, text), in)
}

// saysOf: what was printed, and how it ended when that was not the end of the text.
func saysOf(r impl.Report) []string {
	var says []string
	for _, rec := range r.Recs {
		if rec.Kind == impl.RecPrint {
			says = append(says, rec.Text)
		}
	}
	switch r.Code {
	case 0:
		if len(r.Vals) > 0 {
			says = append(says, "gives "+strings.Join(r.Vals, " "))
		}
	case 1:
		says = append(says, r.Error+" at "+r.Trace)
	default:
		says = append(says, fmt.Sprint("code ", r.Code))
	}
	return says
}

// recTold: task.fn:line of a record, with its text.
func recTold(r impl.Rec) string {
	kinds := []string{"", "line", "call", "back", "throw", "catch", "print", "turn", "last"}
	return strings.TrimSpace(fmt.Sprintf("%s %d.%d:%d %s", kinds[r.Kind], r.Task, r.Fn, r.Line, r.Text))
}

// recsOf: all records but those of lines.
func recsOf(r impl.Report) []string {
	var told []string
	for _, rec := range r.Recs {
		if rec.Kind != impl.RecLine {
			told = append(told, recTold(rec))
		}
	}
	return told
}

func checkShown(t *testing.T, text string, got, want []string) {
	t.Helper()
	if !slices.Equal(got, want) {
		t.Errorf("%s\n%s\nwant\n%s", text, strings.Join(got, " | "), strings.Join(want, " | "))
	}
}

// checkSays: what a text prints with plenty of everything.
func checkSays(t *testing.T, text string, want ...string) {
	t.Helper()
	checkShown(t, text, saysOf(ranText(t, text, plenty())), want)
}

// checkRecs: its records, but for lines.
func checkRecs(t *testing.T, text string, want ...string) {
	t.Helper()
	checkShown(t, text, recsOf(ranText(t, text, plenty())), want)
}

// checkCode: the code of the error that statements throw, or 0 for none; none, two and many are fns that give so many values.
func checkCode(t *testing.T, said string, code int) {
	t.Helper()
	text := "fn none() {}; fn two() {return 1, 2}; fn many() {return 1, 2, 3}\ntry {\n" + said + "\n} catch e {\nreturn e.code\n}\nreturn 0"
	checkShown(t, text, ranText(t, text, plenty()).Vals, []string{fmt.Sprint(code)})
}
