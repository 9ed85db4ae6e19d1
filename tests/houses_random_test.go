package tests

import (
	"fmt"
	"math/rand"
	"slices"
	"strings"
	"testing"

	"loop.example/heddle/impl"
)

// drawnStop: a stop that may hold somewhere.
func drawnStop(rng *rand.Rand) impl.Stop {
	fn := rng.Intn(20)
	return []impl.Stop{onLine(10, 60+rng.Intn(5)), onLine(11+rng.Intn(4), 70+rng.Intn(20)), onCall(fn), onWatch(fn, []string{"x", "n", "k", "e", "t", "f"}[rng.Intn(6)]), {Kind: impl.OnThrow}, onCall(10 + rng.Intn(8))}[rng.Intn(6)]
}

// drawnSpoil: a byte of a head, of an image's beginning, or of anything.
func drawnSpoil(rng *rand.Rand) impl.Event {
	return impl.Event{Op: impl.HSpoil, N: []int{rng.Intn(64), 64 + rng.Intn(64), 128 + rng.Intn(60), 130*64 + rng.Intn(60), rng.Intn(258 * 64)}[rng.Intn(5)], M: 1 + rng.Intn(255)}
}

// drawnEvent: an event of a house by chance; now and then one that is none.
func drawnEvent(rng *rand.Rand, images []string) impl.Event {
	kept := make([]bool, rng.Intn(5))
	for i := range kept {
		kept[i] = rng.Intn(2) == 0
	}
	switch pick := rng.Intn(40); {
	case pick < 10:
		return []impl.Event{ev(impl.HBegin), evN(impl.HTime, rng.Intn(4)), evSay("c", "said"), evSay("d", ""), evText(impl.HInput, "in")}[pick%5]
	case pick < 20:
		return ev([]int{impl.HGo, impl.HGo, impl.HInto, impl.HOver, impl.HOut}[pick%5])
	case pick < 26:
		return []impl.Event{evN(impl.HWhere, rng.Intn(4)), ev(impl.HVars), {Op: impl.HValue, Name: "x"}, {Op: impl.HValue, Name: "n"}, evN(impl.HCount, rng.Intn(3)), ev(impl.HLines)}[pick%6]
	case pick < 29:
		return evStop(drawnStop(rng))
	case pick < 31:
		return evN(impl.HClear, rng.Intn(4))
	case pick < 33:
		return ev(impl.HLay)
	case pick < 35:
		return ev(impl.HTake)
	case pick == 35:
		return impl.Event{Op: impl.HCut, N: rng.Intn(7), Kept: kept}
	case pick == 36:
		return drawnSpoil(rng)
	case pick == 37:
		return evText(impl.HCode, images[rng.Intn(len(images))])
	case pick == 38:
		return evN(impl.HPace, rng.Intn(1001))
	}
	return impl.Event{Op: rng.Intn(24) - 1, N: rng.Intn(3), M: rng.Intn(2)}
}

// P13, P14, P15: houses by chance, with events of all sorts: as the plain house answers; and what is said hangs on the stimuli alone.
func TestHousesByChance(t *testing.T) {
	images := []string{"", "no code", string(imageOf(t, "print(1)")), string(imageOf(t, "while true {print(2)}")), string(imageOf(t, "throw {}")), string(impl.Encode(stepsOf("throw 0")))}
	for worker := range int64(8) {
		t.Run(fmt.Sprint("worker ", worker), func(t *testing.T) {
			t.Parallel()
			rng := rand.New(rand.NewSource(300 + worker))
			met := map[string]int{}
			for n := range 16 {
				h := drawnHost(rng, n%4 == 3)
				if impl.Link(h.Bundle, h.Main).Code != 0 {
					continue
				}
				var events []impl.Event
				for range 10 + rng.Intn(51) {
					events = append(events, drawnEvent(rng, images))
				}
				for i, a := range checkPlay(t, fmt.Sprintf("worker %d, house %d, %+v, %+v", worker, n, events, h), h, events...) {
					met[fmt.Sprint("code ", a.Code)]++
					if events[i].Op == impl.HTake && a.Code == 0 {
						met["taken"]++
					}
				}
			}
			for _, sort := range []string{"code 0", "code 1", "code 2", "code 3", "code 6", "code 9", "code 10", "taken"} {
				if met[sort] == 0 {
					t.Errorf("none of %s: %v", sort, met)
				}
			}
		})
	}
}

// P13: houses brought to places by chance, at moments of every kind, and stepped from there.
func TestHousePlacesByChance(t *testing.T) {
	for worker := range int64(4) {
		t.Run(fmt.Sprint("worker ", worker), func(t *testing.T) {
			t.Parallel()
			rng := rand.New(rand.NewSource(310 + worker))
			// The channel has no name: short lines need few events to be spoiled into others.
			h := hostOf("a", lined(`let t = task(fn(x) {while true {x = yield(x)}})`, `on("", fn(x) {`, `	print(resume(t, 1))`, `	try {throw x} catch e {print(e)}`, `	collect()`, `})`, `setkind({}, {.last = fn() {throw 1}})`))
			ahead := []impl.Event{ev(impl.HBegin), evSay("", "")}
			j := impl.Journal{Lines: impl.SessionLines(ahead)}
			moments, _ := plainMoments(h, j.Lines)
			j.Place = len(moments)
			for range 12 {
				other := copiedJournal(j)
				other.Place = 64 + rng.Intn(len(moments)-64)
				events := slices.Concat(ahead, []impl.Event{ev(impl.HLay)}, respelt(t, j, other), []impl.Event{ev(impl.HTake)})
				taken := len(events) - 1
				for range min(20, 58-len(events)) {
					events = append(events, []impl.Event{ev(impl.HInto), ev(impl.HOver), ev(impl.HOut), ev(impl.HTake), evN(impl.HWhere, rng.Intn(2)), ev(impl.HVars), ev(impl.HLines), ev(impl.HGo)}[rng.Intn(8)])
				}
				if a := checkPlay(t, fmt.Sprint("place ", other.Place), h, events...); a[taken].Place != other.Place || a[taken].Code != 0 {
					t.Errorf("taken up: %v, want place %d", a[taken], other.Place)
				}
			}
		})
	}
}

// P13: no events, wrong hosts and odd bytes by chance never make it panic.
func TestHouseOddEvents(t *testing.T) {
	t.Parallel()
	rng := rand.New(rand.NewSource(320))
	number := func() int {
		return []int{0, 1, -1, 19, 20, 60, 199, 200, 201, 16511, 16512, leastInt, mostInt, rng.Intn(300)}[rng.Intn(14)]
	}
	text := func() string {
		return []string{"", "x", "c", "begin", "\x00\xff", strings.Repeat("y", 4001)}[rng.Intn(6)]
	}
	for n := range 150 {
		var events []impl.Event
		for range rng.Intn(62) {
			e := impl.Event{Op: rng.Intn(24) - 1}
			for range rng.Intn(3) {
				switch rng.Intn(6) {
				case 0:
					e.N = number()
				case 1:
					e.M = number()
				case 2:
					e.Name = text()
				case 3:
					e.Text = text()
				case 4:
					e.Stop = impl.Stop{Kind: rng.Intn(6), Fn: number(), Line: number(), Name: text()}
				case 5:
					e.Kept = make([]bool, []int{0, 1, 200, 201}[rng.Intn(4)])
				}
			}
			events = append(events, e)
		}
		checkPlay(t, fmt.Sprint("events ", n), allowing(counterHost(), 400, 20, 300), events...)
	}
}
