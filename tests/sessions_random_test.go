package tests

import (
	"fmt"
	"math/rand"
	"testing"

	"loop.example/heddle/impl"
)

// drawnEvents: events of a host by chance, some of them none.
func drawnEvents(rng *rand.Rand) []impl.Event {
	var events []impl.Event
	if rng.Intn(4) > 0 {
		events = append(events, impl.Event{Op: impl.HBegin})
	}
	for range rng.Intn(7) {
		e := []impl.Event{
			{Op: impl.HBegin}, {Op: impl.HBegin}, {Op: impl.HTime, N: rng.Intn(4)}, {Op: impl.HTime, N: 1}, {Op: impl.HInput, Text: "in"}, {Op: impl.HSay, Name: "c", Text: "said"},
			{Op: impl.HSay, Name: "d"}, {Op: impl.HVars}, {Op: impl.HTime, N: -1}, {Op: impl.HGo},
		}[rng.Intn(10)]
		events = append(events, e)
	}
	return events
}

// drawnHost: a main module and two others by chance, that import one another, put things off, and hear; with little allowed or enough.
func drawnHost(rng *rand.Rand, little bool) impl.Hosted {
	pieces := []string{
		`try {import("b")} catch e, tr {print(e.code, tr)}`, `try {import("c")} catch e {print(e.code)}`, `try {import("a")} catch e {print(e.name)}`, `import("z")`,
		`after(1, fn() {print("later", now())})`, `after(2, fn() {throw {.code = now()}})`, `after(0, fn() {after(1, fn() {print("twice")})})`,
		`on("c", fn(x) {print("heard", x, read())})`, `on("c", fn(x) {let y = x; y = read(); throw y})`, `on("d", fn(x) {on("c", nil)})`,
		`let n = 0; on("d", fn(x) {n = n + 1; print(n)})`, `let k = {.last = fn(t) {print("last"); if now() > 0 {throw t}}}; for i = 1, 2 {setkind({}, k)}; on("d", fn() {collect()}); collect()`,
		`let t = task(fn(x) {while true {x = x + 1; yield(x)}}); after(1, fn() {print(resume(t, 1))}); after(2, fn() {print(resume(t))})`,
		`let t = task(house.loop); if now() > 0 {resume(t)}`, `fn f(m) {if m > 0 {f(m - 1)}; return m}; f(2)`, `return {.x = now()}`, `throw "off"`,
	}
	text := func() string {
		if rng.Intn(3) == 0 {
			return randomText(rng.Int63())
		}
		lines := ""
		for range rng.Intn(6) {
			lines += "{" + pieces[rng.Intn(len(pieces))] + "}\n"
		}
		return lines
	}
	h := hostOf("a", text(), "b", text(), "c", text())
	if little {
		return allowing(h, 20+rng.Intn(80), 3+rng.Intn(15), 30+rng.Intn(200))
	}
	return allowing(h, 300+rng.Intn(500), 20+rng.Intn(20), 400+rng.Intn(1000))
}

// P10, P11: sessions by chance: one report in all ways, and moments, calls and stops as the plain ones are.
func TestSessionsByChance(t *testing.T) {
	for worker := range int64(8) {
		t.Run(fmt.Sprint("worker ", worker), func(t *testing.T) {
			t.Parallel()
			rng := rand.New(rand.NewSource(190 + worker))
			codes := map[int]int{}
			for n := range 8 {
				h := drawnHost(rng, n%3 == 0)
				lines := impl.SessionLines(drawnEvents(rng))
				told := fmt.Sprintf("worker %d, session %d, %q, %+v", worker, n, lines, h)
				if impl.Link(h.Bundle, h.Main).Code != 0 {
					continue
				}
				codes[checkReports(t, told, h, lines).Code]++
				checkPlayed(t, told, h, lines, 8)
			}
			if codes[0] < 2 || codes[1]+codes[2] < 1 {
				t.Errorf("too few of a sort: %v", codes)
			}
		})
	}
}
