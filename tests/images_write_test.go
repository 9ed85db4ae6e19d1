package tests

import (
	"fmt"
	"math"
	"math/rand"
	"slices"
	"strings"
	"testing"

	"loop.example/heddle/impl"
)

// P5: the image of a code, byte by byte, and the code that is read from it.
func TestImageWrittenOut(t *testing.T) {
	c := shownCode()
	if got := impl.Encode(c); !slices.Equal(got, shownImage()) {
		t.Errorf("Encode %v, want %v", got, shownImage())
	}
	if got := codeTold(impl.Decode(shownImage())); got != codeTold(c) {
		t.Errorf("Decode %s, want %s", got, codeTold(c))
	}
	checkImage(t, "shown", c)
	if impl.MaxImage != 1000000 {
		t.Error("MaxImage", impl.MaxImage)
	}
}

// codeWithConst: a code with this const, whose bytes stand behind the first of those that imageAround gives and ahead of the others.
func codeWithConst(v impl.Value) impl.Code {
	return impl.Code{Protos: []impl.Proto{{Consts: []impl.Value{v}, Ins: insOf("tick; jump 0")}}}
}

func imageAround(b ...byte) []byte {
	return slices.Concat([]byte{72, 67, 1, 2, 0, 0, 0, 0, 0, 0, 2}, b, []byte{4, 6, 0, 0, 0, 0, 38, 0, 0, 0, 0, 0})
}

func checkConstImage(t *testing.T, v impl.Value, b ...byte) {
	t.Helper()
	c := codeWithConst(v)
	if got, want := impl.Encode(c), imageAround(b...); !slices.Equal(got, want) {
		t.Errorf("%v: Encode %v, want %v", shortly(v), shortly(got), shortly(want))
	}
	checkImage(t, shortly(v), c)
}

// P5: numbers, with and without a sign, where they need a group more and at their ends.
func TestImageNumbers(t *testing.T) {
	most := slices.Repeat([]byte{255}, 9)
	for _, c := range []struct {
		n int64
		b []byte
	}{
		{0, []byte{0}}, {-1, []byte{1}}, {1, []byte{2}}, {-2, []byte{3}}, {63, []byte{126}}, {-64, []byte{127}}, {64, []byte{128, 1}}, {-65, []byte{129, 1}},
		{300, []byte{216, 4}}, {8191, []byte{254, 127}}, {-8192, []byte{255, 127}}, {8192, []byte{128, 128, 1}}, {-8193, []byte{129, 128, 1}},
		{1<<62 - 1, []byte{254, 255, 255, 255, 255, 255, 255, 255, 127}}, {1 << 62, []byte{128, 128, 128, 128, 128, 128, 128, 128, 128, 1}},
		{mostInt, append([]byte{254}, append(most[1:], 1)...)}, {leastInt, append(slices.Clone(most), 1)}, {leastInt + 1, append([]byte{253}, append(most[1:], 1)...)},
	} {
		checkConstImage(t, vInt(c.n), append([]byte{impl.KInt}, c.b...)...)
	}
	checkConstImage(t, impl.Value{}, 0)
	checkConstImage(t, vBool(false), 1, 0)
	checkConstImage(t, vBool(true), 1, 2)
	for n := range byte(15) {
		checkConstImage(t, vBuiltin(int64(n)), 8, 2*n)
	}
	for _, n := range edgeInts() {
		checkImage(t, fmt.Sprint("int ", n), codeWithConst(vInt(n)))
	}
	for bit := range 63 {
		for d := int64(-2); d <= 2; d++ {
			checkImage(t, fmt.Sprint("bit ", bit), codeWithConst(vInt(1<<bit+d)))
			checkImage(t, fmt.Sprint("bit ", bit), codeWithConst(vInt(-1<<bit+d)))
		}
	}
	for line, b := range map[int][]byte{0: {0}, 1: {2}, 63: {126}, 64: {128, 1}, 8191: {254, 127}, 8192: {128, 128, 1}, 100000: {192, 154, 12}} {
		c := codeOf(1, fmt.Sprintf("at %d; jump 0", line))
		c.Protos[0].Line, c.Protos[0].Name, c.Protos[0].Consts = line, "", nil
		want := slices.Concat([]byte{72, 67, 1, 2, 0}, b, []byte{0, 0, 2, 0, 0, 4, 4}, b, []byte{0, 0, 0, 38, 0, 0, 0, 0, 0})
		if got := impl.Encode(c); !slices.Equal(got, want) {
			t.Errorf("line %d: %v, want %v", line, got, want)
		}
		checkImage(t, fmt.Sprint("line ", line), c)
	}
}

// P5: fields of instructions at both ends of what they may be.
func TestImageFields(t *testing.T) {
	for _, c := range []struct {
		text string
		b    []byte
	}{
		{"return 0", []byte{58, 0, 0, 0, 0}}, {"return 249", []byte{58, 242, 3, 0, 0, 0}}, {"return -1", []byte{58, 1, 0, 0, 0}}, {"throw -64", []byte{60, 127, 0, 0, 0}},
		{"throw -65", []byte{60, 129, 1, 0, 0, 0}}, {"throw 63", []byte{60, 126, 0, 0, 0}}, {"throw 64", []byte{60, 128, 1, 0, 0, 0}}, {"return -250", []byte{58, 243, 3, 0, 0, 0}},
	} {
		code := codeOf(250, c.text)
		code.Protos[0].Consts = nil
		if got, want := impl.Encode(code), slices.Concat([]byte{72, 67, 1, 2, 2, 'p', 2, 0, 0, 244, 3, 0, 0, 2}, c.b, []byte{0}); !slices.Equal(got, want) {
			t.Errorf("%s: %v, want %v", c.text, got, want)
		}
		checkImage(t, c.text, code)
	}
	for _, text := range []string{"binary 249 18 -250 -1; jump 0", "set -1 -250 249; jump 1", "eachnext 248 1 249; jump 0", "rawall 0 -2 -3; jump 0", "pick 0 249 250; jump 0", "try 1 248; jump 0"} {
		checkImage(t, text, codeOf(250, text))
	}
}

// P5: floats have their 64 bits, the highest byte first.
func TestImageFloats(t *testing.T) {
	for _, c := range []struct {
		f    float64
		bits uint64
	}{
		{0, 0}, {minusZero, 1 << 63}, {1, 0x3ff0000000000000}, {-1.5, 0xbff8000000000000}, {math.Inf(1), 0x7ff0000000000000}, {math.Inf(-1), 0xfff0000000000000},
		{least, 1}, {-least, 1<<63 | 1}, {greatest, 0x7fefffffffffffff}, {-greatest, 0xffefffffffffffff}, {0x1p-1022, 0x0010000000000000},
		{0.1, 0x3fb999999999999a}, {math.Float64frombits(0x0102030405060708), 0x0102030405060708},
	} {
		b := []byte{impl.KFlt}
		for place := uint64(1 << 56); place > 0; place /= 256 {
			b = append(b, byte(c.bits/place%256))
		}
		checkConstImage(t, vFlt(c.f), b...)
	}
	for i, f := range someNumbers() {
		if i%7 == 0 {
			checkImage(t, fmt.Sprint(f), codeWithConst(vFlt(f)))
		}
	}
}

// P5: strings and names of every length that there may be, with bytes of every sort.
func TestImageTexts(t *testing.T) {
	var every []byte
	for b := range 256 {
		every = append(every, byte(b))
	}
	checkConstImage(t, vStr(""), 4, 0)
	checkConstImage(t, vStr("\x00"), 4, 2, 0)
	checkConstImage(t, vStr("a\xff\n\u20ac"), 4, 12, 'a', 255, 10, 226, 130, 172)
	checkConstImage(t, vStr(string(every)), append([]byte{4, 128, 4}, every...)...)
	for length, b := range map[int][]byte{63: {126}, 64: {128, 1}, 3999: {190, 62}, 4000: {192, 62}} {
		s := strings.Repeat("s", length)
		checkConstImage(t, vStr(s), slices.Concat([]byte{4}, b, []byte(s))...)
	}
	for _, name := range []string{"", "a", "\x00", "\xff\x80", strings.Repeat("n", 40), string(every[120:160]), string(every[216:])} {
		c := shownCode()
		c.Protos[0].Name, c.Protos[2].Name = name, name
		if name != "" {
			c.Protos[0].Named[1].Name = name
		}
		checkImage(t, fmt.Sprintf("name %q", name), c)
	}
}

// P5: what has no right shape has no image and no listing; what is not verified has both.
func TestImageOfWrongShape(t *testing.T) {
	met := make([]int, 15)
	for told, c := range wrongShapes() {
		fault := impl.CheckShape(c)
		if !strings.HasPrefix(told, fmt.Sprint(fault.Code, ": ")) {
			t.Error(told, "has the fault", fault)
		}
		met[fault.Code]++
		checkUnwritten(t, told, c)
	}
	if met[0] > 0 || slices.Contains(met[1:8], 0) {
		t.Error("faults of shape:", met)
	}
	for i, v := range []impl.Value{{Num: 1}, {Ref: 1}, {Str: "s"}, {Flt: 1}, {Flt: minusZero}, {Kind: impl.KInt, Num: 7, Flt: minusZero}, {Kind: impl.KInt, Num: 7, Ref: 1},
		{Kind: impl.KStr, Str: "s", Num: 1}, {Kind: impl.KStr, Str: "s", Flt: minusZero}, {Kind: impl.KFlt, Flt: 1, Num: 1}, {Kind: impl.KBool, Ref: -1}, {Kind: 256 + impl.KInt}, {Kind: -256}} {
		checkUnwritten(t, fmt.Sprint("a const with what an image would not show: ", i), codeWithConst(v))
	}
	for told, text := range map[string]string{"a value that is not there": "throw 0", "no guard": "endtry; jump 0", "a guard's keep": "const 0 0; try 3 1; drop 0; jump 1; jump 4; tick; jump 4",
		"ways that meet": "const 0 0; if 0 0; jump 0", "a ring": "jump 0"} {
		c := codeOf(4, text)
		met[impl.CheckCode(c).Code]++
		checkImage(t, told, c)
	}
	if !slices.Equal(met[10:], []int{1, 1, 1, 1, 1}) {
		t.Error("faults of what is not verified:", met)
	}
}

// P5: an image of MaxImage bytes, and codes that would have more.
func TestImageSizes(t *testing.T) {
	for _, size := range []int{999999, 1000000, 1000001, 1000002, 1000064} {
		c := codeOfSize(size)
		image := plainImage(c)
		if len(image) != size || plainShape(c).Code != 0 {
			t.Fatal(size, "is", len(image), plainShape(c))
		}
		if size <= 1000000 {
			checkImage(t, fmt.Sprint(size), c)
			checkUnread(t, fmt.Sprint(size, " and a byte behind"), append(image, 0))
			continue
		}
		if got := impl.Encode(c); len(got) != 0 {
			t.Error(size, "has an image of", len(got))
		}
		if impl.Listing(c) != plainListing(c) {
			t.Error(size, "has another listing")
		}
		checkUnread(t, fmt.Sprint(size), image)
	}
	// The last byte too many is that of a number, a length, a flag or a kind.
	tails := map[string]func(c *impl.Code){
		"const":    func(c *impl.Code) { c.Protos[0].Consts = append(c.Protos[0].Consts, impl.Value{}) },
		"line":     func(c *impl.Code) { c.Protos[0].Line = 64 },
		"name":     func(c *impl.Code) { c.Protos[0].Name += "q" },
		"register": func(c *impl.Code) { c.Protos[0].Regs = 64 },
		"field":    func(c *impl.Code) { c.Protos[0].Ins[0] = insOf("at 64")[0] },
	}
	for told, spoil := range tails {
		c := codeOfSize(1000000)
		spoil(&c)
		if size := len(plainImage(c)); size != 1000001 {
			t.Fatal(told, size)
		}
		if got := impl.Encode(c); len(got) != 0 {
			t.Error(told, "more has an image of", len(got))
		}
	}
	huge := fullCode()
	for p := range huge.Protos {
		huge.Protos[p].Consts = slices.Repeat([]impl.Value{vStr(strings.Repeat("s", 4000))}, 500)
	}
	if got := impl.Encode(huge); len(got) != 0 {
		t.Error("400 times too long, and has an image of", len(got))
	}
}

// P5: Decode of what Encode writes is the code.
func TestImagesReadBack(t *testing.T) {
	t.Parallel()
	checkImage(t, "every Op", everyOp())
	checkImage(t, "guards within guards", guardedCode())
	checkImage(t, "three protos", threeProtos("tick; fn 0 2; list 0; return 0"))
	checkImage(t, "next to nothing", impl.Code{Protos: []impl.Proto{{Ins: insOf("jump 0")}}})
	checkImage(t, "as much of all as there may be", fullCode())
	checkImage(t, "all instructions in one proto", manyProtos(1, 5998))
	r := rand.New(rand.NewSource(11))
	written := 0
	for seed := range int64(60) {
		if c, ok := compiledByChance(seed); ok && seed < 25 {
			checkImage(t, fmt.Sprint("compiled ", seed), c)
			checkImage(t, fmt.Sprint("compiled and decorated ", seed), decorated(r, c))
		}
		g := grownCodes(seed)
		for range 40 {
			c := decorated(r, g.next())
			if plainShape(c).Code != 0 {
				checkUnwritten(t, fmt.Sprint("by chance ", seed), c)
				continue
			}
			checkImage(t, fmt.Sprint("by chance ", seed), c)
			written++
		}
	}
	if written < 1000 {
		t.Error("only", written, "codes had the right shape")
	}
}
