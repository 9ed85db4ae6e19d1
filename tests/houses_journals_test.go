package tests

import (
	"fmt"
	"math/rand"
	"slices"
	"strings"
	"testing"

	"loop.example/heddle/impl"
)

func copiedJournal(j impl.Journal) impl.Journal {
	j.Lines, j.Stops = slices.Clone(j.Lines), slices.Clone(j.Stops)
	return j
}

// checkJournal: a journal's image is the plain one, and it is read back from it; it stays as it was.
func checkJournal(t *testing.T, told string, j impl.Journal, ok bool) {
	t.Helper()
	before := copiedJournal(j)
	image := impl.JournalImage(j)
	if want := plainJournalImage(j); !slices.Equal(image, want) || len(want) > 0 != ok {
		t.Errorf("%s: JournalImage %v, want %v", told, shortly(image), shortly(want))
	}
	if journalTold(j) != journalTold(before) {
		t.Errorf("%s: the journal has changed", told)
	}
	if ok && checkJournalRead(t, told, image) {
		wantTold(t, told+": read back", journalTold(impl.ReadJournal(image).Journal), journalTold(before))
	}
}

// checkJournalRead: bytes are read as the plain reader reads them, and stay as they were; it tells whether they are a journal's image.
func checkJournalRead(t *testing.T, told string, b []byte) bool {
	t.Helper()
	given := slices.Clone(b)
	want, ok := plainReadJournal(b)
	got := impl.ReadJournal(b)
	if got.Ok != ok || journalTold(got.Journal) != journalTold(want) {
		t.Errorf("%s: ReadJournal(%v) %v %s, want %v %s", told, shortly(b), got.Ok, shortly(journalTold(got.Journal)), ok, shortly(journalTold(want)))
	}
	if got.Ok && !slices.Equal(impl.JournalImage(got.Journal), b) {
		t.Errorf("%s: %v is read as a journal that has another image", told, shortly(b))
	}
	if !slices.Equal(b, given) {
		t.Errorf("%s: the bytes have changed", told)
	}
	return ok
}

func checkNoJournal(t *testing.T, told string, b []byte) {
	t.Helper()
	if checkJournalRead(t, told, b) {
		t.Errorf("%s: %v is a journal", told, shortly(b))
	}
}

// manyStops: so many stops of all Kinds.
func manyStops(count int) []impl.Stop {
	var stops []impl.Stop
	for i := range count {
		stops = append(stops, []impl.Stop{onLine(i, 71+i), onCall(299 - i), onWatch(i, strings.Repeat("n", 1+i)), {Kind: impl.OnThrow}}[i%4])
	}
	return stops
}

// someJournals: journals that have images, of all sorts.
func someJournals() map[string]impl.Journal {
	return map[string]impl.Journal{
		"nothing":            {},
		"empty lists":        {Lines: []string{}, Stops: []impl.Stop{}},
		"a line":             {Lines: []string{"begin"}},
		"an empty line":      {Lines: []string{""}},
		"empty lines":        {Lines: []string{"", "a", "", ""}, Place: 7},
		"bytes of all sorts": {Lines: []string{"\x00\xff", "é\n\"", "H1"}, Place: 64, Pace: 63},
		"most lines":         {Lines: slices.Repeat([]string{"tick"}, 200), Place: 100},
		"a long line":        {Lines: []string{"input", strings.Repeat("x", 4000)}, Place: 100},
		"two long lines":     {Lines: []string{strings.Repeat("x", 4000), strings.Repeat("y", 4000)}},
		"a stop on a line":   {Stops: []impl.Stop{onLine(299, 100000)}},
		"a stop on calls":    {Stops: []impl.Stop{onCall(0)}},
		"a stop on watch":    {Stops: []impl.Stop{onWatch(3, strings.Repeat("w", 40))}},
		"a stop on throws":   {Stops: []impl.Stop{{Kind: impl.OnThrow}}},
		"a stop twice":       {Stops: []impl.Stop{onCall(5), onCall(5)}, Place: 1},
		"most stops":         {Lines: []string{"begin"}, Place: 9, Pace: 2, Stops: manyStops(20)},
		"the first place":    {Place: -1},
		"the last place":     {Place: 100000},
		"most pace":          {Pace: 1000},
		"of all some":        {Lines: []string{"begin", "say", "c", "x", "tick"}, Place: 129, Pace: 17, Stops: manyStops(4)},
	}
}

// P12: the image of a journal, byte by byte.
func TestJournalImageBytes(t *testing.T) {
	j := impl.Journal{Lines: []string{"begin", ""}, Place: -1, Pace: 300, Stops: []impl.Stop{onWatch(7, "x"), onLine(1, 64)}}
	want := sealed([]byte("H1\x05\x04\x00" +
		"\x01\x04\x01\x01\x01\xd8\x04\x04\x01\x04\x02" +
		"\x02\x02\x03\x05begin\x03\x00" +
		"\x03\x02\x04\x03\x04\x04" +
		"\x04\x04\x01\x06\x01\x0e\x01\x00\x03\x01x" +
		"\x04\x04\x01\x02\x01\x02\x01\x80\x01\x03\x00"))
	if got := impl.JournalImage(j); !slices.Equal(got, want) {
		t.Errorf("%q, want %q", got, want)
	}
	if got := impl.ReadJournal(want); !got.Ok || journalTold(got.Journal) != journalTold(j) {
		t.Errorf("%v %s", got.Ok, journalTold(got.Journal))
	}
	if got, want := impl.JournalImage(impl.Journal{}), sealed([]byte("H1\x03\x04\x00\x01\x04\x01\x00\x01\x00\x04\x01\x04\x02\x02\x00\x03\x00")); !slices.Equal(got, want) {
		t.Errorf("%q, want %q", got, want)
	}
}

// P12: journals of all sorts are read back from their images.
func TestJournals(t *testing.T) {
	for told, j := range someJournals() {
		checkJournal(t, told, j, true)
	}
}

// P12: each limit met exactly, and passed by one.
func TestJournalLimits(t *testing.T) {
	for place, ok := range map[int]bool{leastInt: false, -2: false, -1: true, 0: true, 1: true, 99999: true, 100000: true, 100001: false, mostInt: false} {
		checkJournal(t, fmt.Sprint("place ", place), impl.Journal{Place: place}, ok)
	}
	for pace, ok := range map[int]bool{leastInt: false, -1: false, 0: true, 1: true, 999: true, 1000: true, 1001: false, mostInt: false} {
		checkJournal(t, fmt.Sprint("pace ", pace), impl.Journal{Pace: pace}, ok)
	}
	for count, ok := range map[int]bool{0: true, 1: true, 199: true, 200: true, 201: false, 300: false, 301: false, 5000: false} {
		checkJournal(t, fmt.Sprint(count, " lines"), impl.Journal{Lines: make([]string, count)}, ok)
	}
	for count, ok := range map[int]bool{0: true, 1: true, 19: true, 20: true, 21: false, 100: false, 700: false} {
		checkJournal(t, fmt.Sprint(count, " stops"), impl.Journal{Stops: slices.Repeat([]impl.Stop{onCall(1)}, count)}, ok)
	}
	for count, ok := range map[int]bool{0: true, 1: true, 127: true, 128: true, 3999: true, 4000: true, 4001: false, 9000: false} {
		checkJournal(t, fmt.Sprint("a line of ", count), impl.Journal{Lines: []string{"input", strings.Repeat("l", count)}}, ok)
	}
	for s, ok := range stopsOfAllSorts() {
		checkJournal(t, fmt.Sprintf("stop %+v", s), impl.Journal{Stops: []impl.Stop{s}}, ok)
		checkJournal(t, fmt.Sprintf("stop %+v behind others", s), impl.Journal{Stops: append(manyStops(5), s)}, ok)
		checkJournal(t, fmt.Sprintf("stop %+v ahead of others", s), impl.Journal{Stops: append([]impl.Stop{s}, manyStops(5)...)}, ok)
	}
}

// P12: a journal that is within its limits, but whose graph is too large for an image, by one byte or by many.
func TestJournalTooLarge(t *testing.T) {
	long := strings.Repeat("x", 4000)
	j := impl.Journal{Lines: []string{long, long, ""}, Place: 100000}
	rest := 8192 - len(plainJournalImage(j))
	j.Lines[2] = strings.Repeat("y", rest-1)
	if size := len(plainJournalImage(j)); size != 8192 {
		t.Fatalf("%d bytes", size)
	}
	checkJournal(t, "8192 bytes", j, true)
	j.Lines[2] += "y"
	checkJournal(t, "8193 bytes", j, false)
	checkJournal(t, "three long lines", impl.Journal{Lines: []string{long, long, long}}, false)
	checkJournal(t, "many lines", impl.Journal{Lines: slices.Repeat([]string{strings.Repeat("z", 50)}, 200)}, false)
}

// P12: what is no image: no bytes, images cut off, with bytes behind, with one byte changed.
func TestReadJournalSpoiled(t *testing.T) {
	checkNoJournal(t, "no bytes", nil)
	checkNoJournal(t, "an empty list", []byte{})
	checkNoJournal(t, "a head", []byte("H1"))
	checkNoJournal(t, "zeros", make([]byte, 100))
	checkNoJournal(t, "more than any image", make([]byte, 8193))
	all := someJournals()
	for _, told := range []string{"nothing", "a line", "of all some"} {
		image := plainJournalImage(all[told])
		for n := range image {
			checkNoJournal(t, fmt.Sprint(told, ", cut off at ", n), image[:n])
			for _, m := range []byte{1, 2, 128, 255} {
				b := slices.Clone(image)
				b[n] ^= m
				checkNoJournal(t, fmt.Sprint(told, ", byte ", n, " changed"), b)
			}
		}
		for _, more := range []string{"\x00", "H", "\x00\x00\x00\x00\x00\x00\x00\x00", string(image)} {
			checkNoJournal(t, told+", with bytes behind", slices.Concat(image, []byte(more)))
			checkNoJournal(t, told+", with bytes ahead", slices.Concat([]byte(more), image))
		}
	}
}

// otherGraphs: graphs that are nearly those of a journal with two lines and two stops.
func otherGraphs() map[string]impl.Graph {
	whole, lines, stops, one, two := "1 9 3 @1 @2", "2 'begin 'tick", "3 @3 @4", "4 2 7 0 '", "4 3 7 0 'x"
	all := map[string]impl.Graph{
		"no nodes":                graphOf("nil"),
		"a number":                graphOf("7"),
		"a text":                  graphOf("'x"),
		"nothing met":             graphOf("nil", whole, lines, stops, one, two),
		"one node":                graphOf("@0", "1 9 3 @0 @0"),
		"two nodes":               graphOf("@0", "1 9 3 @1 @1", lines),
		"an empty node":           graphOf("@0", "1"),
		"no values":               graphOf("@0", "1", lines, stops, one, two),
		"no pace":                 graphOf("@0", "1 9 @1 @2", lines, stops, one, two),
		"a value more":            graphOf("@0", whole+" 0", lines, stops, one, two),
		"a text more":             graphOf("@0", whole+" '", lines, stops, one, two),
		"nil more":                graphOf("@0", whole+" nil", lines, stops, one, two),
		"a node more":             graphOf("@0", whole+" @5", lines, stops, one, two, "5"),
		"a node again":            graphOf("@0", whole+" @0", lines, stops, one, two),
		"place as bits":           graphOf("@0", "1 #9 3 @1 @2", lines, stops, one, two),
		"place as a text":         graphOf("@0", "1 '9 3 @1 @2", lines, stops, one, two),
		"no place":                graphOf("@0", "1 nil 3 @1 @2", lines, stops, one, two),
		"pace as bits":            graphOf("@0", "1 9 #3 @1 @2", lines, stops, one, two),
		"no pace but nil":         graphOf("@0", "1 9 nil @1 @2", lines, stops, one, two),
		"lines as a number":       graphOf("@0", "1 9 3 0 @1", stops, one, two),
		"stops as a number":       graphOf("@0", "1 9 3 @1 0", lines),
		"no stops":                graphOf("@0", "1 9 3 @1", lines),
		"stops first":             graphOf("@0", "1 9 3 @2 @1", lines, stops, one, two),
		"stops ahead of lines":    graphOf("@0", "1 9 3 @1 @2", stops, lines, one, two),
		"lines twice":             graphOf("@0", "1 9 3 @1 @1", lines),
		"place behind the nodes":  graphOf("@0", "1 @1 @2 9 3", lines, stops, one, two),
		"the whole as its lines":  graphOf("@0", "1 9 3 @0 @1", "3"),
		"the whole as its stops":  graphOf("@0", "1 9 3 @1 @0", lines),
		"a line that is a number": graphOf("@0", whole, "2 'begin 7", stops, one, two),
		"a line that is nil":      graphOf("@0", whole, "2 'begin nil", stops, one, two),
		"a line that is bits":     graphOf("@0", whole, "2 #7 'begin", stops, one, two),
		"a line that is a node":   graphOf("@0", whole, "2 'begin @2", stops, one, two),
		"a line that is the root": graphOf("@0", whole, "2 'begin @0", stops, one, two),
		"a stop that is a number": graphOf("@0", whole, lines, "3 @3 7", one),
		"a stop that is 0":        graphOf("@0", whole, lines, "3 0"),
		"a stop that is a text":   graphOf("@0", whole, lines, "3 @3 'x", one),
		"a stop that is nil":      graphOf("@0", whole, lines, "3 nil"),
		"a stop twice":            graphOf("@0", whole, lines, "3 @3 @3", one),
		"a stop that is a list":   graphOf("@0", whole, lines, "3 @1"),
		"a stop that is the list": graphOf("@0", whole, lines, "3 @2"),
		"a stop that is the root": graphOf("@0", whole, lines, "3 @0"),
		"stops in turn":           graphOf("@0", whole, lines, "3 @4 @3", two, one),
		"stops around":            graphOf("@0", whole, lines, "3 @4 @3", one, two),
		"the first stop last":     graphOf("@0", whole, lines, "3 @3 @4 @3", one, two),
		"a stop unmet":            graphOf("@0", whole, lines, "3 @3", one, two),
		"a stop of a stop":        graphOf("@0", whole, lines, "3 @3", "4 2 7 0 @4", two),
		"a stop that is none":     graphOf("@0", whole, lines, stops, one, "4 5 0 0 '"),
		"a stop of nothing":       graphOf("@0", whole, lines, stops, one, "4"),
		"a stop without a name":   graphOf("@0", whole, lines, stops, one, "4 2 7 0"),
		"a stop with nil as name": graphOf("@0", whole, lines, stops, one, "4 2 7 0 nil"),
		"a stop with more":        graphOf("@0", whole, lines, stops, one, "4 2 7 0 ' 0"),
		"a stop's fn too great":   graphOf("@0", whole, lines, stops, one, "4 2 300 0 '"),
		"a stop's fn below 0":     graphOf("@0", whole, lines, stops, one, "4 2 -1 0 '"),
		"a stop's line 0":         graphOf("@0", whole, lines, stops, one, "4 1 7 0 '"),
		"a stop with a name more": graphOf("@0", whole, lines, stops, one, "4 2 7 0 'x"),
		"a stop's kind as bits":   graphOf("@0", whole, lines, stops, "4 #2 7 0 '", two),
		"a stop's fn as nil":      graphOf("@0", whole, lines, stops, "4 2 nil 0 '", two),
		"a stop's line as nil":    graphOf("@0", whole, lines, stops, "4 2 7 nil '", two),
		"root is another":         graphOf("@1", whole, lines, stops, one, two),
		"root is a text":          graphOf("'", whole, lines, stops, one, two),
		"place -2":                graphOf("@0", "1 -2 3 @1 @2", lines, stops, one, two),
		"place 100001":            graphOf("@0", "1 100001 3 @1 @2", lines, stops, one, two),
		"the least place":         graphOf("@0", "1 -9223372036854775808 3 @1 @2", lines, stops, one, two),
		"pace -1":                 graphOf("@0", "1 9 -1 @1 @2", lines, stops, one, two),
		"pace 1001":               graphOf("@0", "1 9 1001 @1 @2", lines, stops, one, two),
		"201 lines":               graphOf("@0", whole, "2"+strings.Repeat(" '", 201), stops, one, two),
		"21 stops":                plainJournalGraph(impl.Journal{Stops: manyStops(21)}),
		"stops that are one":      graphOf("@0", whole, lines, "3"+strings.Repeat(" @3", 300), one),
		"600 nodes":               graphOf("@0", append([]string{whole, lines, "3 @3 @4" + strings.Repeat(" @3", 298)}, slices.Repeat([]string{"4"}, 597)...)...),
	}
	for _, tag := range []int{0, 1, 2, 3, 4, 5, 1000} {
		for i, right := range []int{1, 2, 3, 4, 4} {
			if tag != right {
				g := graphOf("@0", whole, lines, stops, one, two)
				g.Nodes[i].Tag = tag
				all[fmt.Sprint("node ", i, " with tag ", tag)] = g
			}
		}
	}
	return all
}

// P12: images of other graphs than those of journals, with nothing wrong but the graph; and such as they stand, in an order in which they
// are not met.
func TestReadJournalOtherGraphs(t *testing.T) {
	right := graphOf("@0", "1 9 3 @1 @2", "2 'begin 'tick", "3 @3 @4", "4 2 7 0 '", "4 3 7 0 'x")
	if !checkJournalRead(t, "the journal itself", looseImage(right)) {
		t.Error("the journal is none")
	}
	for told, g := range otherGraphs() {
		if impl.Pack(g) != nil {
			checkJournalRead(t, told, impl.Pack(g))
		}
		checkNoJournal(t, told+", as it stands", looseImage(g))
	}
	for _, told := range []string{"a stop twice", "node 3 with tag 5", "place -2", "pace 1001", "a stop that is none", "201 lines", "21 stops", "stops first"} {
		g := otherGraphs()[told]
		if impl.Pack(g) == nil {
			t.Errorf("%s: no image", told)
		}
		checkNoJournal(t, told, impl.Pack(g))
	}
	// Nodes that are not met, or stand in another order, are those of a journal's graph; but their image is another one's when they stand so.
	if !checkJournalRead(t, "other order", impl.Pack(graphOf("@2", "2 'begin 'tick", "3 @4 @3", "1 9 3 @0 @1", "4 3 7 0 'x", "4 2 7 0 '"))) {
		t.Error("the same graph in another order has another image")
	}
}

// P12: journals, and graphs that are nearly theirs, by chance.
func TestJournalsByChance(t *testing.T) {
	t.Parallel()
	rng := rand.New(rand.NewSource(201))
	good := 0
	for n := range 3000 {
		j := impl.Journal{Place: rng.Intn(300) - 1, Pace: rng.Intn(1001), Stops: manyStops(rng.Intn(6))}
		for range rng.Intn(5) {
			j.Lines = append(j.Lines, []string{"begin", "", "tick", "\xff", strings.Repeat("l", 130)}[rng.Intn(5)])
		}
		checkJournal(t, fmt.Sprint("journal ", n), j, true)
		g := plainJournalGraph(j)
		for range 1 + rng.Intn(2) {
			node := &g.Nodes[rng.Intn(len(g.Nodes))]
			switch rng.Intn(4) {
			case 0:
				node.Tag = rng.Intn(6)
			case 1:
				node.Vals = append(node.Vals, drawnVal(rng, len(g.Nodes)))
			case 2:
				node.Vals = node.Vals[:rng.Intn(len(node.Vals)+1)]
			case 3:
				if len(node.Vals) > 0 {
					node.Vals[rng.Intn(len(node.Vals))] = drawnVal(rng, len(g.Nodes))
				}
			}
		}
		if checkJournalRead(t, fmt.Sprint("graph ", n), impl.Pack(g)) {
			good++
		}
	}
	if good < 100 || good > 2900 {
		t.Errorf("%d of 3000 are journals", good)
	}
}

// P17: images and journals are new memory, and the same again.
func TestJournalMemory(t *testing.T) {
	j := impl.Journal{Lines: []string{"a longish line", "another"}, Place: 5, Stops: []impl.Stop{onWatch(4, "name"), onCall(2)}}
	one, two := impl.JournalImage(j), impl.JournalImage(j)
	want := slices.Clone(one)
	clear(one)
	if !slices.Equal(two, want) || !slices.Equal(impl.JournalImage(j), want) {
		t.Error("images share memory")
	}
	read, again := impl.ReadJournal(two).Journal, impl.ReadJournal(two).Journal
	clear(two)
	wantTold(t, "behind other bytes", journalTold(read), journalTold(j))
	if sharedTexts(read.Lines, again.Lines) || sharedTexts(read.Lines, j.Lines) || sharesText(read.Stops[0].Name, again.Stops[0].Name) {
		t.Error("texts are shared")
	}
	clear(read.Lines)
	clear(read.Stops)
	wantTold(t, "a second answer", journalTold(again), journalTold(j))
	wantTold(t, "a third answer", journalTold(impl.ReadJournal(want).Journal), journalTold(j))
}
