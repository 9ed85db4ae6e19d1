package tests

import (
	"encoding/binary"
	"fmt"
	"math"
	"math/rand"
	"slices"
	"strings"
	"testing"

	"loop.example/heddle/impl"
)

// imagePart: a few bytes of an image, and what they are: a head, a number, a length, a flag, a kind, bits or the bytes of a text.
type imagePart struct {
	sort  string
	bytes []byte
}

// plainParts: the image of a code in its parts, whatever is wrong with the code.
func plainParts(c impl.Code) []imagePart {
	parts := []imagePart{{"head", []byte{72, 67, 1}}}
	add := func(sort string, b ...byte) { parts = append(parts, imagePart{sort, b}) }
	number := func(list ...int) {
		for _, n := range list {
			add("number", binary.AppendVarint(nil, int64(n))...)
		}
	}
	length := func(n int) { add("length", binary.AppendVarint(nil, int64(n))...) }
	text := func(s string) { length(len(s)); add("text", []byte(s)...) }
	flag := func(is bool) { add("flag", map[bool]byte{true: 1}[is]) }
	length(len(c.Protos))
	for _, p := range c.Protos {
		text(p.Name)
		number(p.Line, p.Params)
		flag(p.Rest)
		number(p.Regs)
		length(len(p.Ups))
		for _, u := range p.Ups {
			flag(u.Local)
			number(u.Index)
		}
		length(len(p.Consts))
		for _, v := range p.Consts {
			add("kind", byte(v.Kind))
			switch v.Kind {
			case impl.KBool, impl.KInt, impl.KBuiltin:
				number(int(v.Num))
			case impl.KFlt:
				add("bits", binary.BigEndian.AppendUint64(nil, math.Float64bits(v.Flt))...)
			case impl.KStr:
				text(v.Str)
			}
		}
		length(len(p.Ins))
		for _, ins := range p.Ins {
			number(append([]int{ins.Op}, codeFields(ins)...)...)
		}
		length(len(p.Named))
		for _, n := range p.Named {
			text(n.Name)
			number(n.Reg, n.From, n.To)
		}
	}
	return parts
}

func bytesOf(parts []imagePart) []byte {
	var b []byte
	for _, p := range parts {
		b = append(b, p.bytes...)
	}
	return b
}

func plainImage(c impl.Code) []byte { return bytesOf(plainParts(c)) }

// withPart: the bytes of an image with others in the place of a part.
func withPart(parts []imagePart, i int, b ...byte) []byte {
	parts = slices.Clone(parts)
	parts[i].bytes = b
	return bytesOf(parts)
}

func plainListing(c impl.Code) string {
	var b strings.Builder
	for p, proto := range c.Protos {
		for i, ins := range proto.Ins {
			fmt.Fprintf(&b, "%d:%d %s %d %d %d %d\n", p, i, codeOps[ins.Op-1].name, ins.A, ins.B, ins.C, ins.D)
		}
	}
	return b.String()
}

// checkImage: the code has the plain image, is read from it, has the plain listing, and stays as it was.
func checkImage(t *testing.T, told string, c impl.Code) {
	t.Helper()
	before := codeTold(c)
	image := impl.Encode(c)
	if want := plainImage(c); !slices.Equal(image, want) {
		t.Errorf("%s: Encode %v, want %v", told, shortly(image), shortly(want))
	}
	given := slices.Clone(image)
	if got := codeTold(impl.Decode(image)); got != before {
		t.Errorf("%s: Decode %s, want %s", told, shortly(got), shortly(before))
	}
	if got := impl.Listing(c); got != plainListing(c) {
		t.Errorf("%s: Listing %s, want %s", told, shortly(got), shortly(plainListing(c)))
	}
	if codeTold(c) != before || !slices.Equal(image, given) {
		t.Errorf("%s: the code or its image has changed", told)
	}
}

// checkUnwritten: a code that has no image and no listing.
func checkUnwritten(t *testing.T, told string, c impl.Code) {
	t.Helper()
	before := codeTold(c)
	if got := impl.Encode(c); len(got) != 0 {
		t.Errorf("%s: Encode %v", told, shortly(got))
	}
	if got := impl.Listing(c); got != "" {
		t.Errorf("%s: Listing %s", told, shortly(got))
	}
	if codeTold(c) != before {
		t.Errorf("%s: the code has changed", told)
	}
}

// checkUnread: bytes that are no image.
func checkUnread(t *testing.T, told string, b []byte) {
	t.Helper()
	given := slices.Clone(b)
	if got := impl.Decode(b); len(got.Protos) != 0 {
		t.Errorf("%s: %v is read as %s", told, shortly(b), shortly(codeTold(got)))
	}
	if !slices.Equal(b, given) {
		t.Errorf("%s: the bytes have changed", told)
	}
}

// isRead: whether bytes are read as a code, which then has to be written as just these.
func isRead(t *testing.T, told string, b []byte) bool {
	t.Helper()
	c := impl.Decode(b)
	if len(c.Protos) == 0 {
		return false
	}
	if plainShape(c).Code != 0 || !slices.Equal(plainImage(c), b) || !slices.Equal(impl.Encode(c), b) {
		t.Errorf("%s: %v is read as %s", told, shortly(b), codeTold(c))
	}
	return true
}

// shownCode: a code with every part of a proto, and a const of each Kind; shownImage: its image, written out.
func shownCode() impl.Code {
	first := impl.Proto{Name: "m", Line: 300, Regs: 3, Ins: insOf("const 0 3; box 1 -1; fn 0 1; list 2; add 2 -1; return -3"),
		Consts: []impl.Value{{}, vBool(false), vBool(true), vInt(-1), vFlt(1.5), vStr("hi"), vBuiltin(14)},
		Named:  []impl.Named{{Name: "x", Reg: 1, From: 2, To: 6}, {Name: "_", Reg: 0, From: 0, To: 0}}}
	inner := impl.Proto{Params: 1, Rest: true, Regs: 3, Ups: []impl.Up{{Local: true, Index: 1}}, Ins: insOf("fn 2 2; throw -1")}
	last := impl.Proto{Name: "\xc3\xa9", Line: 100000, Regs: 250, Ups: []impl.Up{{Index: 0}, {Local: true, Index: 2}}, Consts: []impl.Value{vInt(64)},
		Ins: insOf("jump 0"), Named: []impl.Named{{Name: "ab", Reg: 249, From: 0, To: 1}}}
	return impl.Code{Protos: []impl.Proto{first, inner, last}}
}

func shownImage() []byte {
	return slices.Concat(
		[]byte{72, 67, 1, 6},
		[]byte{2, 'm', 216, 4, 0, 0, 6, 0},
		[]byte{14, 0, 1, 0, 1, 2, 2, 1, 3, 63, 248, 0, 0, 0, 0, 0, 0, 4, 4, 'h', 'i', 8, 28},
		[]byte{12, 8, 0, 6, 0, 0, 12, 2, 1, 0, 0, 22, 0, 2, 0, 0, 44, 4, 0, 0, 0, 46, 4, 1, 0, 0, 58, 5, 0, 0, 0},
		[]byte{4, 2, 'x', 2, 4, 12, 2, '_', 0, 0, 0},
		[]byte{0, 0, 2, 1, 6, 2, 1, 2, 0},
		[]byte{4, 22, 4, 4, 0, 0, 60, 1, 0, 0, 0, 0},
		[]byte{4, 195, 169, 192, 154, 12, 0, 0, 244, 3, 4, 0, 0, 1, 4, 2, 2, 128, 1},
		[]byte{2, 38, 0, 0, 0, 0, 2, 4, 'a', 'b', 242, 3, 0, 2},
	)
}

// decorated: the code with other names, lines and variables, and more consts, all by chance.
func decorated(r *rand.Rand, c impl.Code) impl.Code {
	c = copiedCode(c)
	name := func(least int) string {
		b := make([]byte, least+r.Intn(41-least))
		r.Read(b)
		return string(b)
	}
	for n := range c.Protos {
		p := &c.Protos[n]
		p.Name, p.Line = name(0), r.Intn(100001)>>r.Intn(17)
		for range r.Intn(10) {
			text := make([]byte, r.Intn(4001)>>r.Intn(12))
			r.Read(text)
			f := math.Float64frombits(r.Uint64())
			if math.IsNaN(f) {
				f = math.Inf(-1)
			}
			p.Consts = append(p.Consts, []impl.Value{{}, vBool(r.Intn(2) == 1), vInt(int64(r.Uint64()) >> r.Intn(64)), vFlt(f), vStr(string(text)),
				vBuiltin(r.Int63n(15))}[r.Intn(6)])
		}
		for range r.Intn(4) {
			if p.Regs > 0 {
				from := r.Intn(len(p.Ins) + 1)
				p.Named = append(p.Named, impl.Named{Name: name(1), Reg: r.Intn(p.Regs), From: from, To: from + r.Intn(len(p.Ins)-from+1)})
			}
		}
	}
	return c
}

// fullCode: as many protos, instructions, ups, consts and variables as a code may have, each as short as it can be.
func fullCode() impl.Code {
	c := manyProtos(200, 27)
	for n := range c.Protos {
		p := &c.Protos[n]
		p.Regs, p.Consts, p.Named = 250, make([]impl.Value, 500), slices.Repeat([]impl.Named{{Name: "x"}}, 500)
		if n > 0 {
			p.Ups = slices.Repeat([]impl.Up{{Local: true}}, 250)
		}
	}
	c.Protos[7].Ins = append([]impl.Ins{{Op: impl.ITick}}, c.Protos[7].Ins...)
	return c
}

// codeOfSize: a code whose image has so many bytes, by strings as consts, each with a length of two bytes.
func codeOfSize(size int) impl.Code {
	c := codeOf(1, "tick; jump 0")
	p := &c.Protos[0]
	p.Consts = []impl.Value{vStr(strings.Repeat("t", 64)), vStr(strings.Repeat("u", 64))}
	p.Consts = append(p.Consts, slices.Repeat([]impl.Value{vStr(strings.Repeat("s", 4000))}, (size-3000)/4003)...)
	rest := size - len(plainImage(c))
	p.Consts[0].Str += strings.Repeat("t", rest/2)
	p.Consts[1].Str += strings.Repeat("u", rest-rest/2)
	return c
}

// wrongShapes: codes with one fault, of each code of CheckShape, none of which is written as another code is.
func wrongShapes() map[string]impl.Code {
	spoiled := func(spoil func(c *impl.Code)) impl.Code {
		c := shownCode()
		spoil(&c)
		return c
	}
	return map[string]impl.Code{
		"1: no protos":           {},
		"1: an empty list":       {Protos: []impl.Proto{}},
		"1: 201 protos":          manyProtos(201, 0),
		"1: 6001 instructions":   manyProtos(1, 5999),
		"2: a long name":         spoiled(func(c *impl.Code) { c.Protos[1].Name = strings.Repeat("n", 41) }),
		"2: a line below 0":      spoiled(func(c *impl.Code) { c.Protos[0].Line = -1 }),
		"2: a line too far":      spoiled(func(c *impl.Code) { c.Protos[2].Line = 100001 }),
		"2: 251 registers":       spoiled(func(c *impl.Code) { c.Protos[2].Regs = 251 }),
		"2: params and rest":     spoiled(func(c *impl.Code) { c.Protos[1].Params = 3 }),
		"2: params of the text":  spoiled(func(c *impl.Code) { c.Protos[0].Params = 1 }),
		"2: ups of the text":     spoiled(func(c *impl.Code) { c.Protos[0].Ups = []impl.Up{{Local: true}} }),
		"2: 251 ups":             spoiled(func(c *impl.Code) { c.Protos[1].Ups = slices.Repeat([]impl.Up{{Local: true}}, 251) }),
		"2: 501 consts":          spoiled(func(c *impl.Code) { c.Protos[1].Consts = make([]impl.Value, 501) }),
		"3: a table":             spoiled(func(c *impl.Code) { c.Protos[0].Consts[6] = vRef(impl.KTable, 0) }),
		"3: a fn":                spoiled(func(c *impl.Code) { c.Protos[0].Consts[6] = vRef(impl.KFn, 0) }),
		"3: a task":              spoiled(func(c *impl.Code) { c.Protos[2].Consts[0] = vRef(impl.KTask, 0) }),
		"3: a NaN":               spoiled(func(c *impl.Code) { c.Protos[0].Consts[4] = vFlt(math.NaN()) }),
		"3: a bool of 2":         spoiled(func(c *impl.Code) { c.Protos[0].Consts[1].Num = 2 }),
		"3: builtin 15":          spoiled(func(c *impl.Code) { c.Protos[0].Consts[6].Num = 15 }),
		"3: a long string":       spoiled(func(c *impl.Code) { c.Protos[0].Consts[5].Str = strings.Repeat("s", 4001) }),
		"3: a kind of 9":         spoiled(func(c *impl.Code) { c.Protos[0].Consts[0].Kind = 9 }),
		"4: no name":             spoiled(func(c *impl.Code) { c.Protos[0].Named[1].Name = "" }),
		"4: a long name":         spoiled(func(c *impl.Code) { c.Protos[0].Named[0].Name = strings.Repeat("n", 41) }),
		"4: no register":         spoiled(func(c *impl.Code) { c.Protos[2].Named[0].Reg = 250 }),
		"4: from behind to":      spoiled(func(c *impl.Code) { c.Protos[0].Named[0].From = 7 }),
		"4: 501 named":           spoiled(func(c *impl.Code) { c.Protos[1].Named = slices.Repeat([]impl.Named{{Name: "a"}}, 501) }),
		"5: no instructions":     spoiled(func(c *impl.Code) { c.Protos[2].Ins, c.Protos[2].Named = nil, nil }),
		"5: Op 0":                spoiled(func(c *impl.Code) { c.Protos[0].Ins[0] = impl.Ins{} }),
		"5: Op 43":               spoiled(func(c *impl.Code) { c.Protos[0].Ins[0] = impl.Ins{Op: 43} }),
		"5: a register too far":  spoiled(func(c *impl.Code) { c.Protos[0].Ins[5].A = -4 }),
		"5: a field is used":     spoiled(func(c *impl.Code) { c.Protos[0].Ins[5].D = 1 }),
		"5: the last goes on":    spoiled(func(c *impl.Code) { c.Protos[0].Ins = c.Protos[0].Ins[:5]; c.Protos[0].Named = nil }),
		"5: a huge field":        spoiled(func(c *impl.Code) { c.Protos[0].Ins[0].B = math.MaxInt }),
		"5: a field far below 0": spoiled(func(c *impl.Code) { c.Protos[0].Ins[1].B = math.MinInt }),
		"6: made twice":          spoiled(func(c *impl.Code) { c.Protos[0].Ins[3] = insOf("fn 0 1")[0] }),
		"6: no such up":          spoiled(func(c *impl.Code) { c.Protos[2].Ups[0].Index = 1 }),
		"6: an up below 0":       spoiled(func(c *impl.Code) { c.Protos[2].Ups[1].Index = -1 }),
		"7: never made":          spoiled(func(c *impl.Code) { c.Protos[1].Ins[0] = insOf("tick")[0] }),
	}
}
