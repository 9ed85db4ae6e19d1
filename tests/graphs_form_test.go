package tests

import (
	"fmt"
	"math/rand"
	"slices"
	"strings"
	"testing"

	"loop.example/heddle/impl"
)

// standing: graphs of five nodes in which this value stands: as Root, in a node that is met, and in one that nothing leads to.
func standing(v impl.Val) map[string]impl.Graph {
	all := map[string]impl.Graph{}
	five := func() impl.Graph { return graphOf("@2", "1 nil 5", "2", "3 @4 'x @2", "4 @4", "5 @0") }
	g := five()
	g.Root = v
	all["root"] = g
	for _, place := range [][2]int{{2, 0}, {2, 1}, {2, 2}, {4, 0}, {0, 0}, {0, 1}, {3, 0}} {
		g := five()
		g.Nodes[place[0]].Vals[place[1]] = v
		all[fmt.Sprint("node ", place[0], " value ", place[1])] = g
	}
	return all
}

func checkVal(t *testing.T, v impl.Val, ok bool) {
	t.Helper()
	for told, g := range standing(v) {
		told = shortly(told + " " + valTold(v))
		if impl.GraphOk(g) != ok {
			t.Errorf("%s: GraphOk %v", told, !ok)
		}
		checkGraph(t, told, g)
	}
}

// P8: values of each Kind, at their edges, each with a field that it does not name, and of no Kind.
func TestGraphValues(t *testing.T) {
	long := strings.Repeat("\xff", 4000)
	for _, v := range []impl.Val{
		{}, {Kind: 1}, {Kind: 1, Num: mostInt}, {Kind: 1, Num: leastInt}, {Kind: 2}, {Kind: 2, Num: -1}, {Kind: 2, Num: 0x7ff8000000000001},
		{Kind: 3}, {Kind: 3, Text: "t"}, {Kind: 3, Text: long}, {Kind: 4}, {Kind: 4, Node: 1}, {Kind: 4, Node: 4},
	} {
		checkVal(t, v, true)
	}
	for _, v := range []impl.Val{
		{Num: 1}, {Num: leastInt}, {Text: "t"}, {Node: 1}, {Node: -1}, {Num: 1, Text: "t", Node: 1},
		{Kind: 1, Text: "t"}, {Kind: 1, Num: 3, Node: 1}, {Kind: 1, Num: 3, Node: -1}, {Kind: 2, Text: "t"}, {Kind: 2, Num: 3, Node: 1},
		{Kind: 3, Num: 1}, {Kind: 3, Text: "t", Num: -1}, {Kind: 3, Text: "t", Node: 1}, {Kind: 3, Text: long + "x"}, {Kind: 3, Text: strings.Repeat("x", 100000)},
		{Kind: 4, Num: 1}, {Kind: 4, Text: "t"}, {Kind: 4, Node: 5}, {Kind: 4, Node: -1}, {Kind: 4, Node: mostInt}, {Kind: 4, Node: leastInt},
		{Kind: 5}, {Kind: 5, Node: 1}, {Kind: -1}, {Kind: 256}, {Kind: 257, Num: 1}, {Kind: leastInt}, {Kind: mostInt},
	} {
		checkVal(t, v, false)
	}
}

// P8: the empty graph, Roots where there are no nodes, and the constants.
func TestGraphWithoutNodes(t *testing.T) {
	if !impl.GraphOk(impl.Graph{}) || !impl.GraphOk(impl.Graph{Nodes: []impl.Thing{}}) || !impl.Alike(impl.Graph{}, impl.Graph{Nodes: []impl.Thing{}}) {
		t.Error("the empty graph")
	}
	for _, root := range []string{"nil", "0", "7", "#7", "'", "'text"} {
		g := graphOf(root)
		if !impl.GraphOk(g) || impl.Canonical(g).Root != g.Root {
			t.Error(root)
		}
		checkGraph(t, root, g)
		checkGraph(t, root+" and nodes", graphOf(root, "1 @1", "2 @0 @2", "3"))
	}
	for _, root := range []string{"@0", "@1", "@-1"} {
		if impl.GraphOk(graphOf(root)) {
			t.Error(root)
		}
		checkGraph(t, root, graphOf(root))
	}
	if impl.MaxThings != 600 || impl.MaxVals != 300 || impl.MaxTag != 1000 || impl.MaxThingText != 4000 || impl.MaxKeep != 8192 {
		t.Error("constants")
	}
	if impl.VNil != 0 || impl.VNum != 1 || impl.VBits != 2 || impl.VText != 3 || impl.VNode != 4 {
		t.Error("kinds")
	}
}

// P8: Tags at their edges, in nodes that are met and in one that nothing leads to.
func TestGraphTags(t *testing.T) {
	for tag, ok := range map[int]bool{0: true, 1: true, 999: true, 1000: true, 1001: false, -1: false, 1256: false, mostInt: false, leastInt: false} {
		for node := range 3 {
			g := graphOf("@0", "1 @2", "2 @0", "3")
			g.Nodes[node].Tag = tag
			if impl.GraphOk(g) != ok {
				t.Errorf("tag %d of node %d: GraphOk %v", tag, node, !ok)
			}
			checkGraph(t, fmt.Sprint("tag ", tag, " of node ", node), g)
		}
	}
}

// P8: as many values and nodes as there may be, and one more.
func TestGraphCounts(t *testing.T) {
	for _, count := range []int{299, 300, 301, 1000} {
		for node := range 3 {
			g := graphOf("@0", "1 @2", "2 @0", "3")
			g.Nodes[node].Vals = slices.Repeat([]impl.Val{gNode(2 - node)}, count)
			if impl.GraphOk(g) != (count <= 300) {
				t.Errorf("%d values in node %d", count, node)
			}
			checkGraph(t, fmt.Sprint(count, " values in node ", node), g)
		}
	}
	for _, count := range []int{599, 600, 601, 1200} {
		for told, g := range map[string]impl.Graph{
			"unmet": {Nodes: make([]impl.Thing, count)}, "the last": {Root: gNode(count - 1), Nodes: make([]impl.Thing, count)}, "a chain": chainOf(count),
		} {
			if impl.GraphOk(g) != (count <= 600) {
				t.Errorf("%d nodes, %s", count, told)
			}
			checkGraph(t, fmt.Sprint(count, " nodes, ", told), g)
		}
	}
}

// chainOf: nodes each of which leads to the one ahead of it, the first of them to the last.
func chainOf(count int) impl.Graph {
	g := impl.Graph{Root: gNode(count / 2)}
	for i := range count {
		g.Nodes = append(g.Nodes, impl.Thing{Tag: i % 1001, Vals: []impl.Val{gNode((i + count - 1) % count)}})
	}
	return g
}

// P8: the largest graphs are answered too.
func TestGraphLargest(t *testing.T) {
	g := impl.Graph{Root: gNode(599)}
	text := gText(strings.Repeat("t", 4000))
	for i := range 600 {
		vals := slices.Repeat([]impl.Val{text}, 300)
		vals[i%300] = gNode((i + 1) % 600)
		g.Nodes = append(g.Nodes, impl.Thing{Tag: i, Vals: vals})
	}
	h := copiedGraph(g)
	if !impl.GraphOk(g) || !impl.Alike(g, h) || len(impl.Pack(g)) != 0 {
		t.Error("the largest graph")
	}
	h.Nodes[599].Vals[298].Text = text.Text[1:]
	if impl.Alike(g, h) {
		t.Error("alike, but for a text")
	}
	h.Nodes[599].Vals[298].Text += "xx"
	if impl.GraphOk(h) || impl.Alike(h, h) {
		t.Error("a text that is too long")
	}
}

// P8: nodes are numbered as they are met: breadth first, whatever numbers they had.
func TestCanonicalWrittenOut(t *testing.T) {
	for _, c := range []struct{ given, want impl.Graph }{
		{given: graphOf("5", "1 @0"), want: graphOf("5")},
		{given: graphOf("@0", "1"), want: graphOf("@0", "1")},
		{given: graphOf("@0", "1 @0"), want: graphOf("@0", "1 @0")},
		{given: graphOf("@1", "1", "2"), want: graphOf("@0", "2")},
		{given: graphOf("@1", "1 @1 @0", "2 @1 @0 @1"), want: graphOf("@0", "2 @0 @1 @0", "1 @0 @1")},
		{given: graphOf("@3", "1 @2", "2 @3", "3 @1", "4 @0"), want: graphOf("@0", "4 @1", "1 @2", "3 @3", "2 @0")},
		// first those of the first node, then those of its first value
		{given: graphOf("@0", "1 @1 @2", "2 @3 @4", "3 @5", "4", "5", "6"), want: graphOf("@0", "1 @1 @2", "2 @3 @4", "3 @5", "4", "5", "6")},
		{given: graphOf("@5", "6", "5", "4", "3 @0", "2 @2 @1", "1 @4 @3"), want: graphOf("@0", "1 @1 @2", "2 @3 @4", "3 @5", "4", "5", "6")},
		{given: graphOf("@0", "1 @1 @2", "2 @2 @3", "3 @4", "4", "5"), want: graphOf("@0", "1 @1 @2", "2 @2 @3", "3 @4", "4", "5")},
		{given: graphOf("@0", "1 @2 @1", "2 @3", "3 @4", "4", "5"), want: graphOf("@0", "1 @1 @2", "3 @3", "2 @4", "5", "4")},
		// nothing leads to 0, 2 and 4, but they lead to nodes that are met
		{given: graphOf("@3", "1 @1 @3", "2 'x -5 #9 nil", "3 @0 @4", "4 @1", "5 @5 @2", "6 @3"), want: graphOf("@0", "4 @1", "2 'x -5 #9 nil")},
		{given: graphOf("'x", "1 @1", "2 @0"), want: graphOf("'x")},
		{given: graphOf("@0", "1 @9"), want: impl.Graph{}},
		{given: graphOf("@0", "1", "2 @9"), want: impl.Graph{}},
		{given: graphOf("@0", "1", "1001"), want: impl.Graph{}},
	} {
		if got := graphTold(impl.Canonical(c.given)); got != graphTold(c.want) {
			t.Errorf("%s: Canonical %s, want %s", graphTold(c.given), got, graphTold(c.want))
		}
		checkGraph(t, graphTold(c.given), c.given)
	}
}

// P8: nodes in every order of numbers have one form.
func TestCanonicalEveryOrder(t *testing.T) {
	g := graphOf("@0", "1 @1 @3 'x", "2 @2 @0", "3 @3 @3 -1", "4 @1 #5 @4", "5 @0")
	var orders func(places, rest []int)
	seen := 0
	orders = func(places, rest []int) {
		for i := range rest {
			orders(append(slices.Clone(places), rest[i]), slices.Delete(slices.Clone(rest), i, i+1))
		}
		if len(rest) > 0 {
			return
		}
		seen++
		h := impl.Graph{Root: gNode(places[0]), Nodes: make([]impl.Thing, 5)}
		for i, node := range copiedGraph(g).Nodes {
			for k, v := range node.Vals {
				if v.Kind == impl.VNode {
					node.Vals[k].Node = places[v.Node]
				}
			}
			h.Nodes[places[i]] = node
		}
		if graphTold(impl.Canonical(h)) != graphTold(impl.Canonical(g)) || !impl.Alike(g, h) || !slices.Equal(impl.Pack(g), impl.Pack(h)) {
			t.Errorf("order %v: another form", places)
		}
		checkGraph(t, fmt.Sprint("order ", places), h)
	}
	orders(nil, []int{0, 1, 2, 3, 4})
	if seen != 120 {
		t.Error(seen, "orders")
	}
}

// P8: which graphs are alike, and which are not.
func TestAlikeWrittenOut(t *testing.T) {
	for _, c := range []struct {
		a, b impl.Graph
		want bool
	}{
		{graphOf("@0", "1 @1", "2 @0"), graphOf("@1", "2 @1", "1 @0"), true},
		{graphOf("@0", "1 @1", "2 @0"), graphOf("@1", "1 @1", "2 @0"), false},
		{graphOf("@0", "1"), graphOf("@2", "7 @2", "8 'x", "1"), true},
		{graphOf("5"), graphOf("5", "1", "2 @0"), true},
		{graphOf("nil"), impl.Graph{}, true},
		{graphOf("5"), graphOf("#5"), false},
		{graphOf("5"), graphOf("6"), false},
		{graphOf("nil"), graphOf("0"), false},
		{graphOf("nil"), graphOf("'"), false},
		{graphOf("nil"), graphOf("@0", "0"), false},
		{graphOf("#0"), graphOf("#-9223372036854775808"), false},
		{graphOf("#9221120237041090561"), graphOf("#9221120237041090562"), false},
		{graphOf("'a"), graphOf("'b"), false},
		{graphOf("'a"), graphOf("'a"), true},
		{graphOf("@0", "1"), graphOf("@0", "2"), false},
		{graphOf("@0", "1 5"), graphOf("@0", "1 6"), false},
		{graphOf("@0", "1 5"), graphOf("@0", "1 5 nil"), false},
		{graphOf("@0", "1 5 6"), graphOf("@0", "1 6 5"), false},
		{graphOf("@0", "1 @1 @2", "2", "3"), graphOf("@0", "1 @2 @1", "2", "3"), false},
		{graphOf("@0", "1 @1 @2", "2", "3"), graphOf("@0", "1 @2 @1", "3", "2"), true},
		{graphOf("@0", "1 @1 @1", "2"), graphOf("@0", "1 @1 @2", "2", "2"), false},
		{graphOf("@0", "1 @1 @2", "2", "2"), graphOf("@0", "1 @2 @1", "2", "2"), true},
		{graphOf("@0", "1 @0"), graphOf("@0", "1 @1", "1 @0"), false},
		{graphOf("@0", "1 @0"), graphOf("@0", "1 @1", "1 @1"), false},
		{graphOf("@0", "1 @1", "2 'x"), graphOf("@0", "1 @1", "2 'y"), false},
		// a fault anywhere, in one of them or both
		{graphOf("@0", "1"), graphOf("@0", "1", "1001"), false},
		{graphOf("@0", "1", "-1"), graphOf("@0", "1"), false},
		{graphOf("@0", "1", "-1"), graphOf("@0", "1", "-1"), false},
		{graphOf("@1", "1"), impl.Graph{}, false},
		{impl.Graph{}, graphOf("@1", "1"), false},
		{graphOf("@1", "1"), graphOf("@1", "1"), false},
		{impl.Graph{Root: impl.Val{Kind: 5}}, impl.Graph{Root: impl.Val{Kind: 5}}, false},
	} {
		if impl.Alike(c.a, c.b) != c.want || impl.Alike(c.b, c.a) != c.want {
			t.Errorf("Alike of %s and %s is not %v", graphTold(c.a), graphTold(c.b), c.want)
		}
		checkGraph(t, "the first", c.a)
		checkGraph(t, "the second", c.b)
	}
}

// spoiled: a graph with one thing changed by chance; it may have become one that is not well made.
func spoiled(rng *rand.Rand, g impl.Graph) impl.Graph {
	g = copiedGraph(g)
	at := func(v *impl.Val) {
		switch rng.Intn(5) {
		case 0:
			v.Kind += rng.Intn(3) - 1
		case 1:
			v.Num++
		case 2:
			v.Text += "z"
		case 3:
			v.Node += rng.Intn(3) - 1
		default:
			*v = drawnVal(rng, len(g.Nodes))
		}
	}
	if len(g.Nodes) == 0 || rng.Intn(8) == 0 {
		at(&g.Root)
		return g
	}
	node := &g.Nodes[rng.Intn(len(g.Nodes))]
	switch n := len(node.Vals); {
	case rng.Intn(4) == 0 || n == 0:
		node.Tag += []int{-1, 1, 1000}[rng.Intn(3)]
	case rng.Intn(3) == 0:
		node.Vals = node.Vals[:n-1]
	case rng.Intn(3) == 0:
		node.Vals[0], node.Vals[n-1] = node.Vals[n-1], node.Vals[0]
	default:
		at(&node.Vals[rng.Intn(n)])
	}
	return g
}

// P8: many graphs, the same in another order, and with something changed, well made and not.
func TestGraphsByChance(t *testing.T) {
	rng := rand.New(rand.NewSource(16))
	alike, unmade := 0, 0
	for n := range 6000 {
		g := drawnGraph(rng)
		told := fmt.Sprint("graph ", n)
		checkGraph(t, told, g)
		same := mixed(rng, g)
		checkGraph(t, told+" in another order", same)
		if !impl.Alike(g, same) || !impl.Alike(same, g) {
			t.Errorf("%s: %s and %s are not alike", told, graphTold(g), graphTold(same))
		}
		other := spoiled(rng, same)
		checkGraph(t, told+" spoiled", other)
		want := plainGraphOk(other) && graphTold(plainForm(g)) == graphTold(plainForm(other))
		if impl.Alike(g, other) != want || impl.Alike(other, g) != want {
			t.Errorf("%s: Alike of %s and %s is not %v", told, graphTold(g), graphTold(other), want)
		}
		if want {
			alike++
		}
		if !plainGraphOk(other) {
			unmade++
		}
	}
	if alike < 500 || alike > 5000 || unmade < 500 || unmade > 5000 {
		t.Errorf("%d alike, %d not well made", alike, unmade)
	}
}

// P8, P17: answers are new memory, with new texts; the same graph has the same answer, and stays as it was.
func TestGraphMemory(t *testing.T) {
	rng := rand.New(rand.NewSource(17))
	for n := range 300 {
		g := drawnGraph(rng)
		g.Root, g.Nodes = gNode(0), append(g.Nodes, impl.Thing{Vals: []impl.Val{gText(strings.Clone("own"))}})
		given := copiedGraph(g)
		a, b := impl.Canonical(g), impl.Canonical(g)
		want := graphTold(b)
		if sharedTexts(graphTexts(g), graphTexts(a)) {
			t.Errorf("graph %d: Canonical shares a text", n)
		}
		overwriteGraph(a)
		if graphTold(g) != graphTold(given) || graphTold(b) != want || graphTold(impl.Canonical(g)) != want {
			t.Errorf("graph %d: Canonical shares memory", n)
		}
		checkApart(t, fmt.Sprint("graph ", n), b)
		overwriteGraph(g)
		if graphTold(b) != want {
			t.Errorf("graph %d: Canonical shares memory with what was given", n)
		}
	}
	if root := graphOf("'the text of the root"); sharedTexts(graphTexts(root), graphTexts(impl.Canonical(root))) {
		t.Error("Canonical shares the text of Root")
	}
	full := graphOf("@0", "1 @1", "2 @0")
	full.Nodes = append(make([]impl.Thing, 0, 10), full.Nodes...)
	full.Nodes[:3][2].Tag = 99
	impl.Canonical(full)
	impl.Pack(full)
	impl.Alike(full, full)
	if full.Nodes[:3][2].Tag != 99 {
		t.Error("written behind the nodes")
	}
}

// checkApart: no two lists of a graph share memory, up to their capacity.
func checkApart(t *testing.T, told string, g impl.Graph) {
	t.Helper()
	owners := map[*impl.Val]int{}
	for i, node := range g.Nodes {
		vals := node.Vals[:cap(node.Vals)]
		for k := range vals {
			if at, ok := owners[&vals[k]]; ok && at != i {
				t.Errorf("%s: two lists share memory", told)
			}
			owners[&vals[k]] = i
		}
	}
}
