package tests

import (
	"fmt"
	"slices"
	"testing"

	"loop.example/heddle/impl"
)

// P7: the machine of texts by chance is what the plain one is, some of them tidied.
func TestLoomsOfTextsByChance(t *testing.T) {
	const workers, each = 8, 10
	for n := range int64(workers) {
		t.Run("", func(t *testing.T) {
			t.Parallel()
			for seed := 40000 + n*each; seed < 40000+(n+1)*each; seed++ {
				c, ok := compiledByChance(seed)
				if !ok {
					continue
				}
				if seed%2 == 0 {
					c = impl.Tidy(c)
				}
				in := randomInput(seed)
				in.Ticks = min(in.Ticks, 400)
				if !checkLoom(t, fmt.Sprint("text ", seed), c, in, 0, int(seed%4)) {
					return
				}
			}
		})
	}
}

// P7: guards in one another, tasks and fns that call each other by chance.
func TestLoomsOfGuardsByChance(t *testing.T) {
	const workers, each = 8, 6
	for n := range int64(workers) {
		t.Run("", func(t *testing.T) {
			t.Parallel()
			for seed := 900 + n*each; seed < 900+(n+1)*each; seed++ {
				text := guardText(seed)
				in := impl.Input{Ticks: 250, Depth: 8, Cells: 100, Lines: slices.Repeat([]string{"l"}, int(seed)%12)}
				if !checkLoom(t, text, stepsOf(text), in, 0, int(seed%3)) {
					return
				}
			}
		})
	}
}

// P7: codes that were grown by chance, with consts by chance.
func TestLoomsOfGrownCodes(t *testing.T) {
	const workers, each = 8, 6
	for n := range int64(workers) {
		t.Run("", func(t *testing.T) {
			t.Parallel()
			for seed := 700 + n*each; seed < 700+(n+1)*each; seed++ {
				g := grownCodes(seed)
				for i := range 400 {
					g.next()
					if i%25 > 0 {
						continue
					}
					in := randomInput(seed + int64(i))
					in.Ticks = min(in.Ticks, 40)
					if !checkLoom(t, fmt.Sprint("grown ", seed), withChance(g.Rand, g.code), in, 10, i%3) {
						return
					}
				}
			}
		})
	}
}
