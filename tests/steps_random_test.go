package tests

import (
	"fmt"
	"math/rand"
	"slices"
	"strings"
	"testing"

	"loop.example/heddle/impl"
)

// P5: the code of texts by chance does what the plain machine does with it; at each record the same can be seen.
func TestStepsOfTextsByChance(t *testing.T) {
	const workers, each = 8, 60
	for n := range int64(workers) {
		t.Run("", func(t *testing.T) {
			t.Parallel()
			for seed := 5000 + n*each; seed < 5000+(n+1)*each; seed++ {
				if c, ok := compiledByChance(seed); ok && !checkStepsPlain(t, fmt.Sprint("text ", seed), c, randomInput(seed), seed%4 == 0) {
					return
				}
			}
		})
	}
}

// withChance: the code with other consts and with names; neither changes what the verifier says.
func withChance(r *rand.Rand, c impl.Code) impl.Code {
	c = copiedCode(c)
	words := append([]string{"nil", "false", "0", "1", "2", "-1", "0.5", `"x"`, `"last"`, `"k"`}, builtinNames...)
	for n := range c.Protos {
		p := &c.Protos[n]
		for i := range p.Consts {
			p.Consts[i] = constOf(words[r.Intn(len(words))])
		}
		for range r.Intn(5) {
			from := r.Intn(len(p.Ins))
			p.Named = append(p.Named, impl.Named{Name: string(rune('a' + r.Intn(26))), Reg: r.Intn(p.Regs), From: from, To: from + r.Intn(len(p.Ins)-from+1)})
		}
	}
	return c
}

// P5: codes that were grown by chance, with consts by chance.
func TestGrownStepsByChance(t *testing.T) {
	const workers, each = 8, 12
	for n := range int64(workers) {
		t.Run("", func(t *testing.T) {
			t.Parallel()
			for seed := n * each; seed < (n+1)*each; seed++ {
				g := grownCodes(seed)
				for i := range 400 {
					g.next()
					if i%20 > 0 {
						continue
					}
					in := randomInput(seed + int64(i))
					in.Ticks = min(in.Ticks, 40)
					if !checkStepsPlain(t, fmt.Sprint("grown ", seed), withChance(g.Rand, g.code), in, true) {
						return
					}
				}
			}
		})
	}
}

// guardScribe writes protos full of guards, with keeps below what is in use, that compiled code never has.
type guardScribe struct {
	*rand.Rand
	b      strings.Builder
	fns    int
	things int // the register of the first fn; those of the others stand behind it, then those of as many tasks
	isMain bool
	top    int // registers from here on hold nothing
	caught int // below it no register may change its type or be taken
	labels int
	depth  int
	vars   int
}

func (s *guardScribe) write(format string, args ...any) { fmt.Fprintf(&s.b, format+"\n", args...) }

func (s *guardScribe) label() string {
	s.labels++
	return fmt.Sprint("l", s.labels)
}

// guardText: a text with fns and tasks of these that call each other; the boxes of all stand in the first registers of the text, and are
// the Ups of every fn.
func guardText(seed int64) string {
	s := &guardScribe{Rand: rand.New(rand.NewSource(seed)), fns: 3}
	boxes := 2 * s.fns
	s.write("proto main line=1")
	var ups []string
	for i := range boxes {
		s.write("const %d nil; box %d ~%d", i, i, i)
		ups = append(ups, fmt.Sprint("r", i))
	}
	for i := range s.fns {
		s.write("fn %d f%d; put %d %d; one %d task r%d; put %d ~%d; drop %d", boxes, i, i, boxes, boxes+1, boxes, s.fns+i, boxes+1, boxes)
	}
	for i := range boxes {
		s.write("get %d %d", boxes+i, i)
	}
	s.isMain, s.things, s.top, s.caught = true, boxes, 2*boxes, 0
	for range 12 {
		s.tried(func() { s.block(1 + s.Intn(3)) })
	}
	s.write("give %d \"end\"", s.top)
	for n := range s.fns {
		s.write("proto f%d line=%d params=2 ups=%s", n, 10+n, strings.Join(ups, ","))
		s.write("var p 0\nvar q 1")
		for i := range boxes {
			s.write("upget %d %d", 2+i, i)
		}
		s.isMain, s.things, s.top, s.caught = false, 2, 2+boxes, 0
		s.block(3 + s.Intn(4))
		s.write("give %d \"end\"", s.top)
	}
	return s.b.String()
}

// block: statements; what they have let is dropped behind them.
func (s *guardScribe) block(count int) {
	base := s.top
	s.depth++
	for range count {
		s.statement()
	}
	s.depth--
	for ; s.top > base; s.top-- {
		s.write("drop %d", s.top-1)
	}
}

func (s *guardScribe) statement() {
	inner := func() { s.block(1 + s.Intn(3)) }
	switch n := s.Intn(6); {
	case s.depth < 4 && n == 0:
		s.tried(inner)
	case s.depth < 4 && n < 3:
		s.scoped(inner)
	default:
		s.plain()
	}
}

func (s *guardScribe) plain() {
	r, fn, task := s.top, s.things+s.Intn(s.fns), s.things+s.fns+s.Intn(s.fns)
	switch s.Intn(14) {
	case 0:
		s.write("line %d", 1+s.Intn(99))
	case 1:
		s.write("at %d; say %d %d", s.Intn(99), r, s.Intn(99))
	case 2:
		s.vars++
		s.write("const %d \"v%d\"\nvar v%d %d", r, s.vars, s.vars, r)
		s.top++
	case 3:
		s.write("table %d\nvar t %d", r, r)
		s.top++
	case 4:
		s.write("do %d r%d %d; drop %d", r, fn, s.Intn(9), r)
	case 5, 6:
		if s.isMain || s.Intn(4) == 0 {
			s.write("one %d task r%d; move %d ~%d; do %d resume r%d %d; drop %d", r, fn, task, r, r, task, s.Intn(9), r)
		}
	case 7:
		if s.isMain || s.Intn(4) == 0 {
			s.write("do %d resume r%d %d; drop %d", r, task, s.Intn(9), r)
		}
	case 8, 9:
		if !s.isMain {
			s.write("do %d yield %d; drop %d", r, s.Intn(9), r)
		}
	case 10, 11:
		if s.isMain {
			s.write("do %d giveup r%d; drop %d", r, task, r)
		}
	case 12:
		s.write("one %d %s; say %d r%d; drop %d", r, []string{"cells", "collect"}[s.Intn(2)], r+1, r, r)
	case 13:
		// One way leads on: what stands behind is reached all the same.
		end := s.label()
		s.write("one %d read; unless ~%d @%s; %s; %s: tick", r, r, end, []string{
			fmt.Sprintf("give %d %d", r, s.Intn(9)), fmt.Sprintf("const %d \"thrown\"; throw %d", r, r), fmt.Sprintf("table %d; throw ~%d", r, r)}[s.Intn(3)], end)
	}
}

func (s *guardScribe) scoped(inner func()) {
	keep := func() int { return s.caught + s.Intn(s.top+2-s.caught) }
	s.write("scope %d", keep())
	for range s.Intn(4) {
		what := []string{fmt.Sprintf("r%d 5", s.things+s.Intn(s.fns)), "print \"d\"", "yield 6", "7", "cells", "collect"}[s.Intn(6)]
		s.write("at %d; later %d %s", s.Intn(99), s.top, what)
		if s.Intn(3) == 0 {
			s.write("keep %d", keep())
		}
	}
	inner()
	if s.Intn(3) == 0 {
		s.write("keep %d", keep())
	}
	s.write("leave")
}

func (s *guardScribe) tried(inner func()) {
	r, around := s.top, s.caught
	handler, end := s.label(), s.label()
	s.write("at %d; try @%s %d", s.Intn(99), handler, r)
	s.caught = r
	inner()
	s.caught = around
	s.write("endtry; jump @%s; %s: say %d r%d r%d", end, handler, r+2, r, r+1)
	s.write("drop %d; drop %d; %s: tick", r+1, r, end)
}

// P5: guards in one another, left in every way, by chance.
func TestGuardsByChance(t *testing.T) {
	const workers, each = 8, 40
	met := make([][9]int, workers)
	for n := range workers {
		t.Run("", func(t *testing.T) {
			t.Parallel()
			for seed := int64(n) * each; seed < int64(n+1)*each; seed++ {
				text := guardText(seed)
				c := stepsOf(text)
				if fault := impl.CheckCode(c); fault != (impl.CodeFault{}) {
					t.Fatalf("%d: %v\n%s", seed, fault, text)
				}
				in := impl.Input{Ticks: 250, Depth: 8, Cells: 100, Lines: slices.Repeat([]string{"l"}, int(seed)%12)}
				if !checkStepsPlain(t, text, c, in, seed%8 == 0) {
					return
				}
				for _, rec := range impl.RunCode(c, in).Recs {
					met[n][rec.Kind]++
				}
			}
		})
	}
	t.Cleanup(func() {
		for _, kind := range []int{impl.RecCall, impl.RecBack, impl.RecThrow, impl.RecCatch, impl.RecPrint, impl.RecTurn} {
			if !slices.ContainsFunc(met, func(m [9]int) bool { return m[kind] > 50 }) {
				t.Error("kind", kind, "is hardly met:", met)
			}
		}
	})
}
