package tests

import (
	"fmt"
	"slices"
	"strings"
	"testing"

	"loop.example/heddle/impl"
)

// checkLives: the slots behind each move from one on, as livesOf has them, at each pace from 0 on; the whole run is that of the plain
// machine, at each of its moves.
func checkLives(t *testing.T, text string, from int, wants ...string) {
	t.Helper()
	c := stepsOf(text)
	ranCode(t, text, c, plenty())
	for pace, want := range wants {
		lives := livesOf(c, plenty(), pace)
		if got := strings.Join(lives[from:], " "); got != want {
			t.Errorf("%s\nfrom %d at pace %d: %s\nwant             %s", text, from, pace, got, want)
		}
		checkLoom(t, text, c, plenty(), 1000, pace)
	}
}

// P7: ahead of a move, when Due is at least Pace: the least free slot is used again, free ones at the end are dropped.
func TestLoomGivesBack(t *testing.T) {
	text := "table 0; table 0; table 0; tick; list 1; return ~1"
	checkLives(t, text, 0, "- T tT ttT ttT ttT ttT ttt", "- T tT Tt T T T t", "- T tT Tt Tt Tt Tt tt", "- T tT ttT ..T ..T ..T ..t")
	c := stepsOf(text)
	for pace, dues := range [][]int{{0, 1, 2, 3, 3, 3, 3, 3}, {0, 1, 1, 1, 0, 0, 0, 0}, {0, 1, 2, 1, 1, 1, 1, 1}, {0, 1, 2, 3, 0, 0, 0, 0}, {0, 1, 2, 3, 3, 3, 3, 3}} {
		var got []int
		for n := range dues {
			got = append(got, impl.Stand(c, plenty(), pace, n).Due)
		}
		if !slices.Equal(got, dues) {
			t.Errorf("pace %d: Due %v, want %v", pace, got, dues)
		}
	}
	// What is free in between is used from the least on.
	checkLives(t, "const 0 1; box 0 ~0; const 1 1; box 1 ~1; const 2 1; box 2 ~2; const 3 1; box 3 ~3; drop 0; tick; drop 2; table 4; table 5; table 6; give 7", 8,
		"BBBB bBBB bBBB bBbB bBbBT bBbBTT bBbBTTT bBbBTTT bBbBTTT bbbbttt",
		"BBBB bBBB bBBB bBbB bBbBT TB.BT TBTBT TBTBT TBTBT tbtbt",
		"BBBB bBBB bBBB bBbB bBbBT bBbBTT TB.BTT TB.BTT TB.BTT tb.btt")
}

// P7: rings of tables, of fns and their boxes: what only they reach themselves is not alive.
func TestLoomGivesRingsBack(t *testing.T) {
	checkLives(t, `table 0; const 1 1; table 2; raw 0 1 2; raw 2 1 0; tick; drop 0; drop 2; tick; table 3; table 4; give 5`, 5,
		"TT TT TT tt tt ttT ttTT ttTT ttTT tttt", "TT TT TT tt tt ttT T.T T.T T.T t.t", "TT TT TT tt tt ttT ttTT ..TT ..TT ..tt")
	checkLives(t, "proto main\nconst 0 nil; box 0 ~0; fn 1 f; put 0 1; drop 0; tick; drop 1; tick; table 1; table 2; give 3\nproto f ups=r0\ngive 0", 4,
		"BF BF BF bf bf bfT bfTT bfTT bfTT bftt", "BF BF BF bf bf bfT T.T T.T T.T t.t", "BF BF BF bf bf bfT bfTT ..TT ..TT ..tt")
	// As a key; as a kind; a table that is its own kind.
	checkLives(t, "table 0; table 1; const 2 1; raw 0 ~1 2; tick; drop 0; table 0; give 1", 4, "TT TT tt ttT ttT ttT ttt", "TT TT tt ttT ..T ..T ..t")
	checkLives(t, "table 0; table 1; one 2 setkind r0 ~1; drop 2; tick; drop 0; table 0; give 1", 8, "TT TT TT tt ttT ttT ttT ttt", "TT TT TT tt ttT ..T ..T ..t")
	checkLives(t, "table 0; one 1 setkind r0 r0; drop 1; tick; drop 0; table 0; give 1", 7, "T T T t tT tT tT tt", "T T T t tT .T .T .t")
}

// P7: weak pairs are taken for strong; when a collect has taken them out, what they named is given back.
func TestLoomGivesWeakBack(t *testing.T) {
	for _, weak := range []string{"k", "v", "kv"} {
		text := `table 0; table 1; const 2 "weak"; const 3 "` + weak + `"; raw 1 2 3; one 4 setkind r0 ~1; drop 4; table 4; table 5; raw 0 ~4 ~5; table 4; tick; do 5 collect; table 5; table 6; drop 0; table 7; give 8`
		checkLives(t, text, 14, "TTTT TTTT TTTTT TTTTT TTTTT TTTTT TTTTT TTttT TTttT TTttTT TTttTTT ttttTTT ttttTTTT ttttTTTT ttttTTTT tttttttt",
			"TTTT TTTT TTTTT TTTTT TTTTT TTTTT TTTTT TTttT TTttT TTttTT TTT.TT ttT.TT ttTTTT ..TTTT ..TTTT ..tttt")
	}
}

// P7: a table that wants a last word is alive until it is told, with what it reaches.
func TestLoomGivesLastWordsBack(t *testing.T) {
	checkLives(t, "proto main\nfn 2 f; table 0; const 1 \"last\"; raw 0 ~1 ~2; table 1; do 3 setkind ~1 ~0; drop 3; table 0; table 0; do 1 collect; table 0; table 0; give 2\nproto f\ntable 0; give 1", 11,
		"FTT FTTT FTTtT FTTtT FTTtT FTTtT FTTtT FTTtTT FTTtTT FTTtTT FTTtTt ftttTt ftttTt ftttTt ftttttT fttttttT fttttttT fttttttT fttttttt",
		"FTT FTTT FTTtT FTT.T FTT.T FTT.T FTT.T FTTTT FTTTT FTTTT FTTtT ftttT ftttT ftttT fttttT T....t T T t")
	// It wants none any more: it is given back at once.
	checkLives(t, "proto main\nfn 2 f; table 0; const 1 \"last\"; raw 0 ~1 ~2; table 1; do 3 setkind r1 ~0; drop 3; table 0; do 2 setkind ~1; drop 2; table 0; give 2\nproto f\ngive 0", 11,
		"FTT FTTT FTTT FTTT FTTT ftTT fttT ftttT ftttT ftttT ftttt", "FTT FTTT FTTT FTTT FTTT ftTT fttT ftttT ....T ....T ....t")
}

// P7: tasks that nobody can reach any more are lost, and what only they held is given back: new ones, and waiting ones with their frames,
// guards and what these keep.
func TestLoomGivesTasksBack(t *testing.T) {
	fresh := "proto main\nfn 0 f; one 1 task ~0; table 0; drop 1; table 1; table 2; give 3\nproto f\ngive 0"
	checkLives(t, fresh, 7, "FT fT fTT fTTT fTTT fTTT fttt", "FT fT fTT TTT TTT TTT ttt", "FT fT fTT fTTT .TTT .TTT .ttt")
	waits := "proto main\nfn 0 f; one 1 task ~0; table 0; do 2 resume r1 ~0; drop 2; table 0; drop 1; table 1; table 2; give 3\nproto f params=1\ntable 1; scope 2; table 2; later 3 read ~2; do 3 yield; return 3"
	checkLives(t, waits, 22, "FTTT FTTT FTTTT ftttT ftttTT ftttTTT ftttTTT ftttTTT ftttttt", "FTTT FTTT FTTTT ftttT ftttTT T...TT T...TT T...TT t...tt")
	for text, x := range map[string]struct{ state, at int }{fresh: {impl.RNew, 9}, waits: {impl.RWaiting, 26}} {
		c := stepsOf(text)
		before, behind := impl.Stand(c, plenty(), 1, x.at).Tasks[1], impl.Stand(c, plenty(), 1, x.at+1).Tasks[1]
		if before.State != x.state || taskTold(behind) != "lost" || taskTold(impl.Stand(c, plenty(), 0, x.at+1).Tasks[1]) != taskTold(before) {
			t.Errorf("%s: %s, then %s", text, taskTold(before), taskTold(behind))
		}
	}
	// One that is reached by another one that waits, by a box, by a table; one that only itself reaches.
	for hold, lost := range map[string]bool{"put 0 1": false, "raw 2 3 1": false, "tick": true, "raw 2 3 1; drop 2": true} {
		text := "proto main\nconst 0 nil; box 0 ~0; fn 1 f; one 4 task ~1; move 1 ~4; table 2; const 3 1; " + hold + "; drop 1; table 4; table 5; tick; give 6\nproto f\ngive 0"
		c := stepsOf(text)
		ranCode(t, text, c, plenty())
		if got := impl.Stand(c, plenty(), 1, impl.Moves(c, plenty())-4).Tasks[1]; (taskTold(got) == "lost") != lost {
			t.Errorf("%s: %s", text, taskTold(got))
		}
	}
	// A task that is done stays done; those that are busy are alive, whoever names them.
	text := "proto main\nfn 0 f; one 1 task ~0; do 2 resume ~1; table 1; table 3; give 4\nproto f\ntable 0; table 1; give 2"
	c := stepsOf(text)
	ranCode(t, text, c, plenty())
	states := map[string]int{}
	for n := range impl.Moves(c, plenty()) {
		for i, k := range impl.Stand(c, plenty(), 1, n).Tasks {
			states[fmt.Sprint(i, strings.Fields(taskTold(k))[0])]++
		}
	}
	if states["1lost"] > 0 || states["1done"] == 0 || states["1new"] == 0 || states["0busy"] == 0 || states["1running"] == 0 {
		t.Error(states)
	}
}

// P7: what is given, what is on its way, lists that are being returned, what guards keep and errors that were dropped are alive.
func TestLoomKeepsWhatIsNeeded(t *testing.T) {
	checkLives(t, "proto main\nfn 0 f; do 1 ~0; table 2; give 3\nproto f\ntable 0; list 1; add 1 ~0; scope 0; table 0; later 2 read r0; return ~1", 12,
		"FTT FTT FTT FTt FTt fTt fTt fTtT fTtT fTtT fttt", "FTT FTT FTT FTt FTt fTt fTt fTtT .T.T .T.T .t.t")
	checkLives(t, "proto main\ntry @h 0; fn 0 f; do 0 ~0; return 0; h: table 2; drop 0; table 0; give 3\nproto f\nscope 0; table 0; later 1 read ~0; table 0; throw ~0", 12,
		"FTT FTT FTT FtT FtT ftT ftT ftT ftTT fttT fttTT fttTT fttTT ftttt", "FTT FTT FTT FtT FtT ftT ftT ftT ftTT ..tT T.tT T..T T..T t..t")
	// A table that only the defers of a task hold that is given up, and the error that was dropped.
	text := "proto main\nfn 0 f; one 1 task ~0; do 2 resume r1; do 2 giveup ~1; table 0; table 0; return 2\nproto f\nscope 0; table 0; later 1 7 r0; table 0; table 0; drop 0; fn 0 g; later 1 r0; do 0 yield; return 0\nproto g\ntable 0; table 1; give 2"
	c := stepsOf(text)
	ranCode(t, text, c, plenty())
	checkLoom(t, text, c, plenty(), 1000, 0, 1, 2, 3)
	for n := range impl.Moves(c, plenty()) {
		m := impl.Stand(c, plenty(), 1, n)
		for _, k := range m.Tasks {
			if alive := impl.Alive(c, plenty(), 1, n); len(k.Dropped) > 0 && !alive[k.Dropped[1].Ref] {
				t.Errorf("behind %d: %s", n, machineTold(m))
			}
		}
	}
}

// P7: Peak at several paces, Most at none.
func TestLoomPeaks(t *testing.T) {
	loop := "const 0 1; const 1 20; const 2 1; for 0; t: fortest 0 @e; tick; table 3; drop 3; fornext 0 @t; e: give 3"
	for text, x := range map[string]struct {
		peaks []int // at paces from 0 on
		most  int
	}{
		"give 0":                            {[]int{0, 0, 0}, 0},
		"table 0; give 1":                   {[]int{1, 1, 1}, 1},
		"table 0; table 0; table 0; give 1": {[]int{3, 2, 2, 3, 3}, 1},
		"table 0; table 1; table 2; give 3": {[]int{3, 3, 3, 3, 3}, 3},
		loop:                                {[]int{20, 2, 3, 4, 5, 6}, 1},
		"table 0; table 1; drop 0; drop 1; tick; table 0; give 1": {[]int{3, 3, 3, 3}, 2},
	} {
		c := stepsOf(text)
		for pace, want := range x.peaks {
			if got := impl.Peak(c, plenty(), pace); got != want {
				t.Errorf("%s at pace %d: Peak %d, want %d", text, pace, got, want)
			}
		}
		if got := impl.Most(c, plenty()); got != x.most {
			t.Errorf("%s: Most %d, want %d", text, got, x.most)
		}
		checkLoom(t, text, c, plenty(), 1000, 0, 1, 2, 3, 4)
	}
	// The greatest pace: there is always more made than it asks for, or nothing is given back.
	many := strings.Replace(loop, "20", "1100", 1)
	if a, b, d := impl.Peak(stepsOf(many), plenty(), 0), impl.Peak(stepsOf(many), plenty(), impl.MaxPace), impl.Most(stepsOf(many), plenty()); a != 1100 || b != 1000 || d != 1 {
		t.Error(a, b, d)
	}
	// What is alive behind the last move is not asked for: the move in which the run is over.
	in := plenty()
	in.Ticks = 0
	if c := stepsOf("table 0; tick; give 1"); impl.Most(c, in) != 1 || impl.Peak(c, in, 1) != 1 {
		t.Error("over")
	}
}

// P7: boxes cost nothing, so there may be very many; what is told of a whole run does not need them all at once.
func TestLoomManyBoxes(t *testing.T) {
	t.Parallel()
	const turns, each = 500, 1990
	c := stepsOf("again: tick; " + strings.Repeat("const 0 1; box 0 ~0; drop 0; ", each) + "jump @again")
	in := impl.Input{Ticks: turns, Depth: 1}
	want := impl.RunCode(c, in)
	for _, pace := range []int{0, 1, 100} {
		if got := impl.RunLoom(c, in, pace); got.Code != 2 || !sameReport(got, want) {
			t.Errorf("pace %d: %s", pace, reportTold(got))
		}
	}
	moves := turns*(2+3*each) + 1
	if got := impl.Moves(c, in); got != moves {
		t.Errorf("%d moves, want %d", got, moves)
	}
	for pace, peak := range map[int]int{0: turns * each, 1: 2, 100: 101} {
		if got := impl.Peak(c, in, pace); got != peak {
			t.Errorf("Peak %d at pace %d, want %d", got, pace, peak)
		}
	}
	if got := impl.Most(c, in); got != 1 {
		t.Errorf("Most %d", got)
	}
	if got := impl.Canon(c, in, 0, moves-1); len(got.Slots) != 0 || got.Births != turns*each {
		t.Errorf("%d slots, %d births", len(got.Slots), got.Births)
	}
}
