package tests

import (
	"encoding/binary"
	"fmt"
	"hash/fnv"
	"math/rand"
	"slices"
	"strconv"
	"strings"
	"testing"

	"loop.example/heddle/impl"
)

// gVal: a value of a graph in short: "nil", a number, "#" and bits, "'" and a text, "@" and a node.
func gVal(short string) impl.Val {
	number := func(digits string) int64 {
		n, err := strconv.ParseInt(digits, 10, 64)
		if err != nil {
			panic(err)
		}
		return n
	}
	switch {
	case short == "nil":
		return impl.Val{}
	case short[0] == '#':
		return impl.Val{Kind: impl.VBits, Num: number(short[1:])}
	case short[0] == '\'':
		return impl.Val{Kind: impl.VText, Text: short[1:]}
	case short[0] == '@':
		return impl.Val{Kind: impl.VNode, Node: int(number(short[1:]))}
	}
	return impl.Val{Kind: impl.VNum, Num: number(short)}
}

func gNode(n int) impl.Val    { return impl.Val{Kind: impl.VNode, Node: n} }
func gText(s string) impl.Val { return impl.Val{Kind: impl.VText, Text: s} }

// graphOf: a graph in short: its Root, then for each node its Tag and its values, with spaces between.
func graphOf(root string, nodes ...string) impl.Graph {
	g := impl.Graph{Root: gVal(root)}
	for _, short := range nodes {
		words := strings.Fields(short)
		node := impl.Thing{Tag: int(gVal(words[0]).Num)}
		for _, word := range words[1:] {
			node.Vals = append(node.Vals, gVal(word))
		}
		g.Nodes = append(g.Nodes, node)
	}
	return g
}

func valTold(v impl.Val) string { return fmt.Sprintf("(%d %d %q %d)", v.Kind, v.Num, v.Text, v.Node) }

func graphTold(g impl.Graph) string {
	var b strings.Builder
	b.WriteString("root " + valTold(g.Root))
	for i, node := range g.Nodes {
		fmt.Fprintf(&b, "; node %d tag %d", i, node.Tag)
		for _, v := range node.Vals {
			b.WriteString(valTold(v))
		}
	}
	return b.String()
}

func copiedGraph(g impl.Graph) impl.Graph {
	nodes := make([]impl.Thing, len(g.Nodes))
	for i, node := range g.Nodes {
		nodes[i] = impl.Thing{Tag: node.Tag, Vals: slices.Clone(node.Vals)}
	}
	return impl.Graph{Root: g.Root, Nodes: nodes}
}

// overwriteGraph fills all memory that a graph has with something else.
func overwriteGraph(g impl.Graph) {
	nodes := g.Nodes[:cap(g.Nodes)]
	for i := range nodes {
		vals := nodes[i].Vals[:cap(nodes[i].Vals)]
		for k := range vals {
			vals[k] = impl.Val{Kind: -77, Text: "overwritten"}
		}
		nodes[i] = impl.Thing{Tag: -77}
	}
}

func graphTexts(g impl.Graph) []string {
	texts := []string{g.Root.Text}
	for _, node := range g.Nodes {
		for _, v := range node.Vals {
			texts = append(texts, v.Text)
		}
	}
	return texts
}

// plainValOk: whether a value may stand in a graph of so many nodes.
func plainValOk(v impl.Val, nodes int) bool {
	num, text, node := v.Num == 0, v.Text == "", v.Node == 0
	return v.Kind == 0 && num && text && node ||
		(v.Kind == 1 || v.Kind == 2) && text && node ||
		v.Kind == 3 && num && node && len(v.Text) <= 4000 ||
		v.Kind == 4 && num && text && v.Node >= 0 && v.Node < nodes
}

func plainGraphOk(g impl.Graph) bool {
	vals := []impl.Val{g.Root}
	for _, node := range g.Nodes {
		if node.Tag < 0 || node.Tag > 1000 || len(node.Vals) > 300 {
			return false
		}
		vals = append(vals, node.Vals...)
	}
	return len(g.Nodes) <= 600 && !slices.ContainsFunc(vals, func(v impl.Val) bool { return !plainValOk(v, len(g.Nodes)) })
}

// plainForm: the one form of a graph, from the list of its nodes in the order in which they are met.
func plainForm(g impl.Graph) impl.Graph {
	if !plainGraphOk(g) {
		return impl.Graph{}
	}
	var order []int
	meet := func(v impl.Val) {
		if v.Kind == 4 && !slices.Contains(order, v.Node) {
			order = append(order, v.Node)
		}
	}
	meet(g.Root)
	for k := 0; k < len(order); k++ {
		for _, v := range g.Nodes[order[k]].Vals {
			meet(v)
		}
	}
	anew := func(v impl.Val) impl.Val {
		if v.Kind == 4 {
			v.Node = slices.Index(order, v.Node)
		}
		return v
	}
	form := impl.Graph{Root: anew(g.Root)}
	for _, old := range order {
		node := impl.Thing{Tag: g.Nodes[old].Tag}
		for _, v := range g.Nodes[old].Vals {
			node.Vals = append(node.Vals, anew(v))
		}
		form.Nodes = append(form.Nodes, node)
	}
	return form
}

func plainSum(b []byte) int64 {
	h := fnv.New64a()
	h.Write(b)
	return int64(h.Sum64())
}

// sealed: bytes with their sum behind them.
func sealed(b []byte) []byte {
	return binary.LittleEndian.AppendUint64(slices.Clone(b), uint64(plainSum(b)))
}

// graphParts: what a graph looks like in an image, part by part, whatever is wrong with it, with its nodes as they stand.
func graphParts(g impl.Graph) []imagePart {
	parts := []imagePart{{"head", []byte("H1")}}
	add := func(sort string, b ...byte) { parts = append(parts, imagePart{sort, b}) }
	number := func(sort string, n int) { add(sort, binary.AppendUvarint(nil, uint64(n))...) }
	val := func(v impl.Val) {
		add("kind", byte(v.Kind))
		switch v.Kind {
		case impl.VNum:
			add("num", binary.AppendVarint(nil, v.Num)...)
		case impl.VBits:
			add("bits", binary.LittleEndian.AppendUint64(nil, uint64(v.Num))...)
		case impl.VText:
			number("length", len(v.Text))
			add("text", []byte(v.Text)...)
		case impl.VNode:
			number("node", v.Node)
		}
	}
	number("nodes", len(g.Nodes))
	val(g.Root)
	for _, node := range g.Nodes {
		number("tag", node.Tag)
		number("vals", len(node.Vals))
		for _, v := range node.Vals {
			val(v)
		}
	}
	return parts
}

// looseImage: what would be the image of a graph, were it well made and its nodes in the order in which they are met.
func looseImage(g impl.Graph) []byte { return sealed(bytesOf(graphParts(g))) }

func plainPack(g impl.Graph) []byte {
	if !plainGraphOk(g) {
		return nil
	}
	if b := looseImage(plainForm(g)); len(b) <= 8192 {
		return b
	}
	return nil
}

// graphReader reads an image strictly, from its beginning to its sum.
type graphReader struct {
	rest []byte
	ok   bool
	met  int // how many nodes it has met
}

func (r *graphReader) want(is bool) { r.ok = r.ok && is }

func (r *graphReader) take(count int) []byte {
	r.want(count >= 0 && count <= len(r.rest))
	if !r.ok {
		return make([]byte, 8)
	}
	b := r.rest[:count]
	r.rest = r.rest[count:]
	return b
}

func (r *graphReader) number() uint64 {
	n, size := binary.Uvarint(r.rest)
	r.want(size > 0 && len(binary.AppendUvarint(nil, n)) == size)
	r.take(size)
	return n
}

// below: a number of at most so much.
func (r *graphReader) below(most int) int {
	n := r.number()
	r.want(most >= 0 && n <= uint64(most))
	return int(n)
}

func (r *graphReader) val(nodes int) impl.Val {
	v := impl.Val{Kind: int(r.take(1)[0])}
	switch v.Kind {
	case 0:
	case 1:
		n := r.number()
		v.Num = int64(n >> 1)
		if n&1 == 1 {
			v.Num = ^v.Num
		}
	case 2:
		v.Num = int64(binary.LittleEndian.Uint64(r.take(8)))
	case 3:
		v.Text = string(r.take(r.below(4000)))
	case 4:
		v.Node = r.below(min(r.met, nodes-1))
		if v.Node == r.met {
			r.met++
		}
	default:
		r.ok = false
	}
	return v
}

// plainUnpack: the graph of an image, and whether there is one.
func plainUnpack(b []byte) (impl.Graph, bool) {
	end := len(b) - 8
	if end < 2 || len(b) > 8192 || string(b[:2]) != "H1" || int64(binary.LittleEndian.Uint64(b[end:])) != plainSum(b[:end]) {
		return impl.Graph{}, false
	}
	r := &graphReader{rest: b[2:end], ok: true}
	count := r.below(600)
	g := impl.Graph{Root: r.val(count)}
	for r.ok && len(g.Nodes) < count {
		r.want(len(g.Nodes) < r.met)
		node := impl.Thing{Tag: r.below(1000)}
		for vals := r.below(300); r.ok && len(node.Vals) < vals; {
			node.Vals = append(node.Vals, r.val(count))
		}
		g.Nodes = append(g.Nodes, node)
	}
	r.want(len(r.rest) == 0)
	if !r.ok {
		return impl.Graph{}, false
	}
	return g, true
}

// checkGraph: all that the calls answer for a graph, well made or not, is what the plain ones answer; it stays as it was.
func checkGraph(t *testing.T, told string, g impl.Graph) {
	t.Helper()
	before := graphTold(g)
	ok := plainGraphOk(g)
	if got := impl.GraphOk(g); got != ok {
		t.Errorf("%s: GraphOk %v: %s", told, got, shortly(before))
	}
	form := plainForm(g)
	canon := impl.Canonical(g)
	if got := graphTold(canon); got != graphTold(form) {
		t.Errorf("%s: Canonical %s, want %s", told, shortly(got), shortly(graphTold(form)))
	}
	if got := graphTold(impl.Canonical(canon)); got != graphTold(form) {
		t.Errorf("%s: Canonical of Canonical %s, want %s", told, shortly(got), shortly(graphTold(form)))
	}
	if impl.Alike(g, g) != ok || impl.Alike(g, form) != ok || impl.Alike(form, g) != ok {
		t.Errorf("%s: Alike of a graph and its form: %s", told, shortly(before))
	}
	image := impl.Pack(g)
	if want := plainPack(g); !slices.Equal(image, want) {
		t.Errorf("%s: Pack %v, want %v", told, shortly(image), shortly(want))
	}
	if len(image) != 0 {
		checkGraphRead(t, told, image)
	}
	if graphTold(g) != before {
		t.Errorf("%s: the graph has changed", told)
	}
}

// checkGraphRead: bytes are read as the plain reader reads them, and stay as they were; it tells whether they are an image.
func checkGraphRead(t *testing.T, told string, b []byte) bool {
	t.Helper()
	given := slices.Clone(b)
	want, ok := plainUnpack(b)
	got := impl.Unpack(b)
	if got.Ok != ok || graphTold(got.Graph) != graphTold(want) {
		t.Errorf("%s: Unpack(%v) %v %s, want %v %s", told, shortly(b), got.Ok, shortly(graphTold(got.Graph)), ok, shortly(graphTold(want)))
	}
	if got.Ok && !slices.Equal(impl.Pack(got.Graph), b) {
		t.Errorf("%s: %v is read as a graph that has another image", told, shortly(b))
	}
	if !slices.Equal(b, given) {
		t.Errorf("%s: the bytes have changed", told)
	}
	return ok
}

// checkNoImage: bytes that are no image, by Unpack and by the plain reader.
func checkNoImage(t *testing.T, told string, b []byte) {
	t.Helper()
	if checkGraphRead(t, told, b) {
		t.Errorf("%s: %v is an image", told, shortly(b))
	}
}

// drawnVal: a value by chance, mostly of the edges.
func drawnVal(rng *rand.Rand, nodes int) impl.Val {
	nums := []int64{0, 1, -1, 63, 64, -64, -65, 127, 128, 8191, -8192, 1 << 31, leastInt, leastInt + 1, mostInt, mostInt - 1, rng.Int63(), -rng.Int63()}
	texts := []string{"", "a", "\x00", "\xff\xfe", "a longer text", strings.Repeat("x", 127), strings.Repeat("y", 128), "H1"}
	kind := rng.Intn(7)
	switch {
	case kind >= 4 && nodes > 0:
		return gNode(rng.Intn(nodes))
	case kind == 1 || kind == 2:
		return impl.Val{Kind: kind, Num: nums[rng.Intn(len(nums))]}
	case kind == 3:
		return gText(texts[rng.Intn(len(texts))])
	}
	return impl.Val{}
}

// drawnGraph: a well made graph by chance, with rings and with nodes that nothing leads to.
func drawnGraph(rng *rand.Rand) impl.Graph {
	tags := []int{0, 1, 2, 127, 128, 300, 999, 1000}
	nodes := make([]impl.Thing, rng.Intn(9))
	for i := range nodes {
		nodes[i].Tag = tags[rng.Intn(len(tags))]
		for range rng.Intn(6) {
			nodes[i].Vals = append(nodes[i].Vals, drawnVal(rng, len(nodes)))
		}
	}
	return impl.Graph{Root: drawnVal(rng, len(nodes)), Nodes: nodes}
}

// mixed: the same graph with its nodes in another order, and some more that nothing leads to.
func mixed(rng *rand.Rand, g impl.Graph) impl.Graph {
	more := rng.Intn(3)
	places := rng.Perm(len(g.Nodes) + more)
	move := func(v impl.Val) impl.Val {
		if v.Kind == impl.VNode {
			v.Node = places[v.Node]
		}
		return v
	}
	nodes := make([]impl.Thing, len(places))
	for i, place := range places {
		if i >= len(g.Nodes) {
			nodes[place] = impl.Thing{Tag: rng.Intn(1001), Vals: []impl.Val{gNode(rng.Intn(len(places))), gText("unmet")}}
			continue
		}
		nodes[place].Tag = g.Nodes[i].Tag
		for _, v := range g.Nodes[i].Vals {
			nodes[place].Vals = append(nodes[place].Vals, move(v))
		}
	}
	return impl.Graph{Root: move(g.Root), Nodes: nodes}
}
