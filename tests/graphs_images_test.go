package tests

import (
	"encoding/binary"
	"fmt"
	"math/rand"
	"slices"
	"strings"
	"testing"

	"loop.example/heddle/impl"
)

// P8: sums of nothing, of one byte of each sort, of many; some are below 0 and some are not.
func TestSumOf(t *testing.T) {
	for text, want := range map[string]int64{
		"": -3750763034362895579, "a": -5808556873153909620, "b": -5808553574619024987, "\x00": -5808590958014384161, "\xff": -5808391946409677970,
		"foobar": -8821353812377114648, "foo": -2543842089295555209, "chongo was here!\n": 5080352029159061781,
	} {
		if got := impl.SumOf([]byte(text)); got != want {
			t.Errorf("SumOf(%q) %d, want %d", text, got, want)
		}
	}
	rng := rand.New(rand.NewSource(1))
	below := 0
	for n := range 600 {
		b := []byte{byte(n)}
		if n >= 256 {
			b = make([]byte, n)
			rng.Read(b)
		}
		given := slices.Clone(b)
		got := impl.SumOf(b)
		if got != plainSum(b) || impl.SumOf(b) != got {
			t.Errorf("SumOf(%v) %d, want %d", shortly(b), got, plainSum(b))
		}
		if got < 0 && n >= 256 {
			below++
		}
		if !slices.Equal(b, given) {
			t.Fatal("the bytes have changed")
		}
	}
	if below < 100 || below > 250 {
		t.Error(below, "sums below 0")
	}
	if big := make([]byte, 100000); impl.SumOf(big) != plainSum(big) {
		t.Error("many bytes")
	}
}

// P8: whole images, byte by byte.
func TestPackWrittenOut(t *testing.T) {
	for _, c := range []struct {
		g    impl.Graph
		want []byte
	}{
		{impl.Graph{}, []byte{72, 49, 0, 0, 2, 94, 131, 236, 214, 77, 53, 163}},
		{graphOf("-1"), []byte{72, 49, 0, 1, 1, 220, 158, 59, 227, 51, 171, 244, 214}},
		{graphOf("-1", "5 @0", "6 @1 'unmet"), []byte{72, 49, 0, 1, 1, 220, 158, 59, 227, 51, 171, 244, 214}},
		{graphOf("@0", "1000 @0 'a"), []byte{72, 49, 1, 4, 0, 232, 7, 2, 4, 0, 3, 1, 97, 37, 171, 99, 144, 49, 238, 39, 12}},
		{graphOf("@2", "128 @2", "9 @0 @2", "7 @0 '"), []byte{72, 49, 2, 4, 0, 7, 2, 4, 1, 3, 0, 128, 1, 1, 4, 0, 137, 88, 200, 78, 202, 68, 152, 169}},
	} {
		if got := impl.Pack(c.g); !slices.Equal(got, c.want) {
			t.Errorf("Pack(%s) %v, want %v", graphTold(c.g), got, c.want)
		}
		if got := impl.Unpack(c.want); !got.Ok || graphTold(got.Graph) != graphTold(plainForm(c.g)) {
			t.Errorf("Unpack(%v) %v %s", c.want, got.Ok, graphTold(got.Graph))
		}
		checkGraph(t, "written out", c.g)
	}
}

// P8: values with the bytes that they become, as Root and in a node.
func TestPackValues(t *testing.T) {
	most := slices.Repeat([]byte{255}, 9)
	for short, b := range map[string][]byte{
		"nil": {0}, "0": {1, 0}, "-1": {1, 1}, "1": {1, 2}, "-2": {1, 3}, "63": {1, 126}, "-64": {1, 127}, "64": {1, 128, 1}, "-65": {1, 129, 1},
		"8191": {1, 254, 127}, "-8192": {1, 255, 127}, "8192": {1, 128, 128, 1}, "-8193": {1, 129, 128, 1}, "1048576": {1, 128, 128, 128, 1},
		"4611686018427387903": {1, 254, 255, 255, 255, 255, 255, 255, 255, 127}, "4611686018427387904": {1, 128, 128, 128, 128, 128, 128, 128, 128, 128, 1},
		"9223372036854775807": append(append([]byte{1, 254}, most[1:]...), 1), "-9223372036854775808": append(append([]byte{1}, most...), 1),
		"-9223372036854775807": append(append([]byte{1, 253}, most[1:]...), 1),
		"#0":                   {2, 0, 0, 0, 0, 0, 0, 0, 0}, "#1": {2, 1, 0, 0, 0, 0, 0, 0, 0}, "#-1": {2, 255, 255, 255, 255, 255, 255, 255, 255},
		"#-9223372036854775808": {2, 0, 0, 0, 0, 0, 0, 0, 128}, "#72623859790382856": {2, 8, 7, 6, 5, 4, 3, 2, 1}, "#9221120237041090561": {2, 1, 0, 0, 0, 0, 0, 248, 127},
		"'": {3, 0}, "'x": {3, 1, 'x'}, "'\x00\xff": {3, 2, 0, 255}, "'" + strings.Repeat("y", 127): append([]byte{3, 127}, strings.Repeat("y", 127)...),
		"'" + strings.Repeat("z", 128): append([]byte{3, 128, 1}, strings.Repeat("z", 128)...), "'" + strings.Repeat("w", 4000): append([]byte{3, 160, 31}, strings.Repeat("w", 4000)...),
	} {
		v := gVal(short)
		for told, c := range map[string]struct {
			g    impl.Graph
			want []byte
		}{
			"root":      {impl.Graph{Root: v}, sealed(append([]byte{72, 49, 0}, b...))},
			"in a node": {impl.Graph{Root: gNode(0), Nodes: []impl.Thing{{Tag: 2, Vals: []impl.Val{{}, v, {}}}}}, sealed(slices.Concat([]byte{72, 49, 1, 4, 0, 2, 3, 0}, b, []byte{0}))},
		} {
			if got := impl.Pack(c.g); !slices.Equal(got, c.want) {
				t.Errorf("%s, %s: Pack %v, want %v", shortly(short), told, shortly(got), shortly(c.want))
			}
			checkGraph(t, shortly(short)+" "+told, c.g)
		}
	}
}

// P8: numbers of nodes, of values, of Tags and Nodes, with a group more where they need it.
func TestPackCounts(t *testing.T) {
	for _, count := range []int{1, 2, 127, 128, 129, 300, 599, 600} {
		g := chainOf(count)
		head := append([]byte{72, 49}, binary.AppendUvarint(nil, uint64(count))...)
		if got := impl.Pack(g); len(got) < len(head) || !slices.Equal(got[:len(head)], head) || !slices.Equal(got, plainPack(g)) {
			t.Errorf("%d nodes: %v", count, shortly(got))
		}
		checkGraph(t, fmt.Sprint(count, " nodes"), g)
	}
	for _, count := range []int{0, 1, 127, 128, 299, 300} {
		g := impl.Graph{Root: gNode(0), Nodes: []impl.Thing{{Tag: count, Vals: make([]impl.Val, count)}}}
		size := binary.AppendUvarint(nil, uint64(count))
		if got, want := impl.Pack(g), sealed(slices.Concat([]byte{72, 49, 1, 4, 0}, size, size, make([]byte, count))); !slices.Equal(got, want) {
			t.Errorf("%d values: %v, want %v", count, shortly(got), shortly(want))
		}
		checkGraph(t, fmt.Sprint(count, " values"), g)
	}
}

// P8: images of MaxKeep bytes and some more, wherever the limit is met.
func TestPackMost(t *testing.T) {
	kept, lost := 0, 0
	for told, vals := range map[string][]impl.Val{
		"nothing": nil, "a number": {gVal("9223372036854775807")}, "bits": {gVal("#1"), gVal("#-1")}, "texts": {gText(""), gText("ab")},
		"nodes": {gNode(0), gNode(1)}, "nothings": make([]impl.Val, 20),
	} {
		for more := range 80 {
			g := graphOf("@0", "1", "2 @0")
			g.Nodes[0].Vals = append([]impl.Val{gText(strings.Repeat("x", 4000)), gText(strings.Repeat("y", 4000)), gText(strings.Repeat("z", 110+more))}, vals...)
			image := impl.Pack(g)
			if len(image) > 8192 {
				t.Errorf("%s, %d more: %d bytes", told, more, len(image))
			}
			switch {
			case len(image) == 8192:
				kept++
				g.Nodes[0].Vals[2].Text += "z"
				if impl.Pack(g) != nil {
					t.Errorf("%s: an image of 8193 bytes", told)
				}
			case len(image) == 0:
				lost++
			}
			checkGraph(t, fmt.Sprint(told, ", ", more, " more"), g)
		}
	}
	if kept != 6 || lost < 60 {
		t.Errorf("%d images of just MaxKeep bytes, %d of more", kept, lost)
	}
}

// P8: what nothing leads to takes no room in an image, but has to be well made.
func TestPackUnmet(t *testing.T) {
	long := strings.Repeat("u", 4000)
	g := graphOf("@1", "1", "2 5")
	g.Nodes[0].Vals = slices.Repeat([]impl.Val{gText(long)}, 300)
	if got, want := impl.Pack(g), sealed([]byte{72, 49, 1, 4, 0, 2, 1, 1, 10}); !slices.Equal(got, want) {
		t.Errorf("Pack %v, want %v", shortly(got), want)
	}
	checkGraph(t, "long texts that are not met", g)
	g.Root = gNode(0)
	if got := impl.Pack(g); got != nil {
		t.Error("long texts that are met:", shortly(got))
	}
	for told, change := range map[string]func(g *impl.Graph){
		"a tag":          func(g *impl.Graph) { g.Nodes[0].Tag = 1001 },
		"a value":        func(g *impl.Graph) { g.Nodes[0].Vals[299].Node = 1 },
		"a text":         func(g *impl.Graph) { g.Nodes[0].Vals[299].Text += "u" },
		"one value more": func(g *impl.Graph) { g.Nodes[0].Vals = append(g.Nodes[0].Vals, impl.Val{}) },
		"many nodes":     func(g *impl.Graph) { g.Nodes = append(g.Nodes, make([]impl.Thing, 599)...) },
		"the root":       func(g *impl.Graph) { g.Root = gNode(2) },
	} {
		g := graphOf("@1", "1", "2 5")
		g.Nodes[0].Vals = slices.Repeat([]impl.Val{gText(long)}, 300)
		change(&g)
		if impl.GraphOk(g) || impl.Pack(g) != nil {
			t.Errorf("%s: an image of a graph that is not well made", told)
		}
		checkGraph(t, told, g)
	}
}

// shownGraphs: graphs with all that an image can have.
func shownGraphs() []impl.Graph {
	return []impl.Graph{
		{}, graphOf("7"), graphOf("'abc"), graphOf("#77"), graphOf("@0", "5"),
		graphOf("@0", "1 @1 nil -3 64 #258 'hi @2 @0", "300 @2 @2 '", "1000 9223372036854775807 -9223372036854775808 @3", "0"), plainForm(chainOf(5)), plainForm(chainOf(130)),
	}
}

// P8: images that are cut at every length, at either end, or have bytes behind them; with a wrong sum or a right one.
func TestUnpackBeginAndEnd(t *testing.T) {
	checkNoImage(t, "nil", nil)
	checkNoImage(t, "no bytes", []byte{})
	checkNoImage(t, "the sum of nothing", sealed(nil))
	checkNoImage(t, "a head alone", sealed([]byte("H1")))
	for _, g := range shownGraphs() {
		image := looseImage(g)
		body := image[:len(image)-8]
		if !checkGraphRead(t, "whole", image) {
			t.Error("no image:", shortly(graphTold(g)))
		}
		for cut := range image {
			checkNoImage(t, fmt.Sprint("cut at ", cut), image[:cut])
			if cut > 0 {
				checkNoImage(t, fmt.Sprint("begun at ", cut), image[cut:])
			}
		}
		for cut := range body {
			checkNoImage(t, fmt.Sprint("cut at ", cut, ", with its sum"), sealed(body[:cut]))
		}
		for b := range 256 {
			checkNoImage(t, "a byte behind", append(slices.Clone(image), byte(b)))
			checkNoImage(t, "a byte behind, with its sum", sealed(append(slices.Clone(body), byte(b))))
			checkNoImage(t, "a byte ahead", append([]byte{byte(b)}, image...))
			checkNoImage(t, "a byte ahead, with its sum", sealed(append([]byte{byte(b)}, body...)))
		}
		checkNoImage(t, "twice", slices.Concat(image, image))
		checkNoImage(t, "two sums", sealed(image))
		checkNoImage(t, "no sum", body)
		checkNoImage(t, "the sum the other way round", binary.BigEndian.AppendUint64(slices.Clone(body), uint64(plainSum(body))))
		checkNoImage(t, "the sum of the image without its head", binary.LittleEndian.AppendUint64(slices.Clone(body), uint64(plainSum(body[2:]))))
	}
}

// P8: each byte of an image changed in every way is no image; with a right sum only when it is that of another graph.
func TestUnpackChangedBytes(t *testing.T) {
	others := 0
	for _, g := range shownGraphs()[:7] {
		image := looseImage(g)
		for at := range image {
			for by := 1; by < 256; by++ {
				changed := slices.Clone(image)
				changed[at] ^= byte(by)
				checkNoImage(t, fmt.Sprint("byte ", at, " changed by ", by), changed)
				if at >= len(image)-8 {
					continue
				}
				if checkGraphRead(t, fmt.Sprint("byte ", at, " changed by ", by, ", with its sum"), sealed(changed[:len(image)-8])) {
					others++
				}
			}
		}
	}
	if others < 1000 {
		t.Error("only", others, "images of other graphs")
	}
}

// P8: each number of an image, in more groups than it needs, or too great for 64 bits.
func TestUnpackLongNumbers(t *testing.T) {
	met := 0
	for _, g := range shownGraphs()[:7] {
		parts := graphParts(g)
		for i, part := range parts {
			if slices.Contains([]string{"head", "kind", "bits", "text"}, part.sort) {
				continue
			}
			met++
			for told, b := range longer(part.bytes) {
				checkNoImage(t, fmt.Sprint(part.sort, " ", i, " in ", told), sealed(withPart(parts, i, b...)))
			}
		}
	}
	if met < 40 {
		t.Error("only", met, "numbers")
	}
}

// P8: each number of an image with others in its place.
func TestUnpackOtherNumbers(t *testing.T) {
	others := 0
	for _, g := range shownGraphs()[:7] {
		parts := graphParts(g)
		for i, part := range parts {
			if slices.Contains([]string{"head", "bits", "text"}, part.sort) {
				continue
			}
			right, _ := binary.Uvarint(part.bytes)
			for _, n := range []uint64{0, 1, 2, 3, 4, 5, 6, 7, right - 1, right + 1, right + 256, right + 1<<32, 127, 128, 299, 300, 301, 599, 600, 601, 999, 1000, 1001,
				4000, 4001, 8000, 8192, 1<<31 - 1, 1 << 31, 1<<32 - 1, 1 << 32, mostInt - 7, mostInt, 1 << 63, 1<<63 + right, 1<<64 - 2, 1<<64 - 1} {
				if n == right {
					continue
				}
				if checkGraphRead(t, fmt.Sprint(part.sort, " ", i, " is ", n), sealed(withPart(parts, i, binary.AppendUvarint(nil, n)...))) {
					others++
				}
			}
		}
	}
	if others < 100 {
		t.Error("only", others, "images of other graphs")
	}
}

// P8: what looks like the image of a graph that is not well made, or whose nodes are not all met or not in their order.
func TestUnpackNotCanonical(t *testing.T) {
	for _, g := range []impl.Graph{
		graphOf("@1", "1 @0", "2 @0"), graphOf("@0", "1", "2"), graphOf("@0", "1 @2 @1", "2", "3"), graphOf("@0", "1 @1", "2 @3 @2", "3", "4"),
		graphOf("@0", "1 @1 @3", "2 @2", "3", "4"), graphOf("7", "1"), graphOf("nil", "1", "2"), graphOf("@0", "1 @0", "2 @0"), graphOf("@0", "1 @0", "2 @1"),
		graphOf("@0", "1 @2", "2 @1", "3 @1"), graphOf("@1", "1 @1", "2 @0"), graphOf("@0", "1 @1 @2", "2 @4", "3 @3", "4", "5"),
		graphOf("@0"), graphOf("@0", "1 @1"), graphOf("@0", "1001"), graphOf("@0", "1 @1", "1001"),
		{Root: gText(strings.Repeat("x", 4001))}, {Root: gNode(0), Nodes: []impl.Thing{{Vals: make([]impl.Val, 301)}}}, chainOf(601),
		{Root: impl.Val{Kind: 5}}, {Root: impl.Val{Kind: 255}}, {Root: gNode(0), Nodes: []impl.Thing{{Vals: []impl.Val{{Kind: 5}}}}},
	} {
		checkNoImage(t, shortly(graphTold(g)), looseImage(g))
	}
	for _, g := range []impl.Graph{
		graphOf("@0", "1000"), {Root: gText(strings.Repeat("x", 4000))}, {Root: gNode(0), Nodes: []impl.Thing{{Vals: make([]impl.Val, 300)}}}, plainForm(chainOf(600)),
		graphOf("@0", "1 @1 @2", "2 @3", "3 @4", "4", "5"),
	} {
		if image := looseImage(g); !checkGraphRead(t, "at the edge", image) || !impl.Unpack(image).Ok {
			t.Error("no image:", shortly(graphTold(g)))
		}
	}
}

// P8: images of MaxKeep bytes and of one more; more bytes than these, of every sort.
func TestUnpackMost(t *testing.T) {
	of := func(last int) impl.Graph {
		g := graphOf("@0", "1")
		g.Nodes[0].Vals = []impl.Val{gText(strings.Repeat("x", 4000)), gText(strings.Repeat("y", 4000)), gText(strings.Repeat("z", last))}
		return g
	}
	room := 8192 - len(looseImage(of(130)))
	if b := looseImage(of(130 + room)); len(b) != 8192 || !checkGraphRead(t, "just as long", b) || !impl.Unpack(b).Ok {
		t.Error(len(b), "bytes are no image")
	}
	if b := looseImage(of(131 + room)); len(b) != 8193 || checkGraphRead(t, "too long by one", b) || impl.Unpack(b).Ok {
		t.Error(len(b), "bytes are an image")
	}
	for _, size := range []int{8192, 8193, 100000, 1 << 20} {
		for _, b := range []byte{0, 1, 4, 128, 255} {
			many := slices.Repeat([]byte{b}, size)
			checkNoImage(t, "many bytes", many)
			copy(many, "H1")
			checkNoImage(t, "many bytes, with a head and a sum", sealed(many))
			checkNoImage(t, "as many with a sum", sealed(many[:min(size, 8192)-8]))
		}
	}
}

// P8: what Pack gives for many graphs is read; what stands there with parts cut out, doubled and changed is read as it has to be.
func TestUnpackByChance(t *testing.T) {
	rng := rand.New(rand.NewSource(160))
	images := 0
	for n := range 4000 {
		g := drawnGraph(rng)
		image := impl.Pack(g)
		if got := impl.Unpack(image); !got.Ok || graphTold(got.Graph) != graphTold(plainForm(g)) {
			t.Errorf("graph %d is not read back: %s", n, graphTold(g))
		}
		if loose := looseImage(g); checkGraphRead(t, fmt.Sprint("graph ", n, " as it stands"), loose) != slices.Equal(loose, image) {
			t.Errorf("graph %d: as it stands", n)
		}
		body := image[:len(image)-8]
		for range 10 {
			changed := slices.Clone(body)
			for range 1 + rng.Intn(3) {
				at := rng.Intn(len(changed))
				to := at + rng.Intn(min(6, len(changed)-at)+1)
				switch rng.Intn(4) {
				case 0:
					changed = slices.Delete(changed, at, to)
				case 1:
					changed = slices.Insert(changed, to, changed[at:to]...)
				case 2:
					changed[at] = byte(rng.Intn(6))
				default:
					changed[at] = byte(rng.Intn(256))
				}
				if len(changed) == 0 {
					changed = []byte{0}
				}
			}
			if checkGraphRead(t, fmt.Sprint("graph ", n, " changed"), sealed(changed)) {
				images++
			}
		}
	}
	if images < 2000 {
		t.Error("only", images, "images")
	}
}

// P8, P17: images and graphs that are read are new memory; the same bytes have the same answer.
func TestImageMemoryOfGraphs(t *testing.T) {
	for n, g := range shownGraphs() {
		before := graphTold(g)
		a, b := impl.Pack(g), impl.Pack(g)
		want := slices.Clone(b)
		for i := range a[:cap(a)] {
			a[:cap(a)][i] = 77
		}
		if graphTold(g) != before || !slices.Equal(b, want) || !slices.Equal(impl.Pack(g), want) {
			t.Errorf("graph %d: Pack shares memory", n)
		}
		c, d := impl.Unpack(b), impl.Unpack(b)
		told := graphTold(d.Graph)
		checkApart(t, fmt.Sprint("graph ", n), c.Graph)
		overwriteGraph(c.Graph)
		if !slices.Equal(b, want) || graphTold(d.Graph) != told || graphTold(impl.Unpack(b).Graph) != told {
			t.Errorf("graph %d: Unpack shares memory", n)
		}
		for i := range b[:cap(b)] {
			b[:cap(b)][i] = 77
		}
		if graphTold(d.Graph) != told {
			t.Errorf("graph %d: Unpack shares memory with the bytes", n)
		}
	}
}

// P8: bytes behind the end of a slice are not looked at and not written.
func TestBytesBehindTheEnd(t *testing.T) {
	image := looseImage(graphOf("@0", "1 @0 'x"))
	room := append(make([]byte, 0, len(image)+50), image...)
	behind := room[len(image):cap(room)]
	for i := range behind {
		behind[i] = 7
	}
	if !impl.Unpack(room).Ok || impl.Unpack(room[:len(room)-1]).Ok || impl.SumOf(room) != plainSum(image) {
		t.Error("bytes with room behind them")
	}
	if slices.ContainsFunc(behind, func(b byte) bool { return b != 7 }) {
		t.Error("written behind the end")
	}
}
