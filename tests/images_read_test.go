package tests

import (
	"encoding/binary"
	"fmt"
	"math/rand"
	"slices"
	"testing"

	"loop.example/heddle/impl"
)

// P5: nothing, other bytes at the beginning, an image that is cut off, and bytes behind the end.
func TestDecodeBeginAndEnd(t *testing.T) {
	checkUnread(t, "nil", nil)
	checkUnread(t, "no bytes", []byte{})
	checkUnread(t, "no protos", []byte{72, 67, 1, 0})
	for _, c := range []impl.Code{shownCode(), everyOp(), codeWithConst(vStr("")), codeWithConst(vFlt(1)), codeWithConst(vInt(leastInt))} {
		image := plainImage(c)
		for cut := range image {
			checkUnread(t, fmt.Sprint("cut at ", cut), image[:cut])
			if cut > 0 {
				checkUnread(t, fmt.Sprint("begun at ", cut), image[cut:])
			}
		}
		for b := range 256 {
			checkUnread(t, "a byte behind", append(slices.Clone(image), byte(b)))
			checkUnread(t, "a byte ahead", append([]byte{byte(b)}, image...))
			for at, right := range []byte{72, 67, 1} {
				if changed := slices.Clone(image); byte(b) != right {
					changed[at] = byte(b)
					checkUnread(t, fmt.Sprint("byte ", at, " is ", b), changed)
				}
			}
		}
		checkUnread(t, "zeros behind", append(slices.Clone(image), make([]byte, 100)...))
		checkUnread(t, "twice", slices.Concat(image, image))
		checkUnread(t, "its protos twice", slices.Concat(image, image[4:]))
	}
}

// longer: other ways to write a number in groups of seven bits: with more of them than needed, more than ten, or more than 64 bits.
func longer(b []byte) map[string][]byte {
	all := map[string][]byte{}
	open := slices.Clone(b)
	open[len(open)-1] += 128
	for size := len(b) + 1; size <= 12; size++ {
		padded := append(slices.Clone(open), slices.Repeat([]byte{128}, size-len(b))...)
		padded[size-1] = 0
		all[fmt.Sprint(size, " groups")] = padded
	}
	all["a hundred groups"] = slices.Concat(open, slices.Repeat([]byte{128}, 100-len(b)-1), []byte{0})
	for _, last := range []byte{2, 4, 64, 126} {
		tenth := append(slices.Clone(open), slices.Repeat([]byte{128}, 10)...)[:10]
		if len(b) == 10 {
			tenth[9] = b[9]
		} else {
			tenth[9] = 0
		}
		tenth[9] += last
		all[fmt.Sprint("bits above 64: ", last)] = tenth
	}
	all["an eleventh group"] = append(append(slices.Clone(open), slices.Repeat([]byte{128}, 10)...)[:10], 1)
	return all
}

// P5: each number and length of an image, written in any other way.
func TestDecodeLongNumbers(t *testing.T) {
	c := shownCode()
	c.Protos[0].Consts = append(c.Protos[0].Consts, vInt(leastInt), vInt(mostInt), vInt(0), vInt(1<<62), vInt(1<<61-1))
	parts := plainParts(c)
	checkImage(t, "numbers", c)
	met := 0
	for i, part := range parts {
		if part.sort != "number" && part.sort != "length" {
			continue
		}
		met++
		for told, b := range longer(part.bytes) {
			checkUnread(t, fmt.Sprint("part ", i, " in ", told), withPart(parts, i, b...))
		}
	}
	if met < 90 {
		t.Error("only", met, "numbers")
	}
	for _, size := range []int{1, 9, 10, 11, 1000, 999996} {
		checkUnread(t, "a number without an end", append([]byte{72, 67, 1}, slices.Repeat([]byte{255}, size)...))
		checkUnread(t, "a length of 0 with many groups", slices.Concat([]byte{72, 67, 1}, slices.Repeat([]byte{128}, size), []byte{0}))
	}
}

// P5: lengths below 0, beyond what is left, and near the greatest int.
func TestDecodeLengths(t *testing.T) {
	for _, c := range []impl.Code{shownCode(), guardedCode()} {
		parts := plainParts(c)
		for i, part := range parts {
			if part.sort != "length" {
				continue
			}
			right, _ := binary.Varint(part.bytes)
			left := int64(len(bytesOf(parts[i+1:])))
			for _, n := range []int64{-1, -2, -right, -right - 1, right - 1, right + 1, left, left + 1, left + 2, 200, 250, 500, 6000, 1 << 16, 1 << 31, 1 << 32, 1 << 62,
				mostInt / 5, mostInt / 64, mostInt - left, mostInt - 1, mostInt, leastInt, leastInt + 1, leastInt / 2, 1<<32 + right, leastInt + right} {
				if n != right {
					isRead(t, fmt.Sprint("length ", i, " is ", n), withPart(parts, i, binary.AppendVarint(nil, n)...))
				}
				if n < 0 || n > left {
					checkUnread(t, fmt.Sprint("length ", i, " is ", n), withPart(parts, i, binary.AppendVarint(nil, n)...))
				}
			}
		}
	}
	for _, n := range []int64{2, 1000, mostInt / 9, mostInt} {
		long := slices.Concat([]byte{72, 67, 1}, binary.AppendVarint(nil, n), make([]byte, 999980))
		checkUnread(t, "many empty protos", long)
		consts := slices.Concat([]byte{72, 67, 1, 2, 0, 0, 0, 0, 0, 0}, binary.AppendVarint(nil, n), make([]byte, 999970))
		checkUnread(t, "many consts", consts)
	}
}

// P5: flags that are neither 0 nor 1, Kinds that no const has, and NaNs.
func TestDecodeFlagsKindsNaNs(t *testing.T) {
	parts := plainParts(shownCode())
	met := map[string]int{}
	for i, part := range parts {
		met[part.sort]++
		switch part.sort {
		case "flag":
			for b := 2; b < 256; b++ {
				checkUnread(t, fmt.Sprint("flag ", i, " is ", b), withPart(parts, i, byte(b)))
			}
		case "bits":
			for _, bits := range []uint64{0x7ff8000000000000, 0x7ff8000000000001, 0x7ff0000000000001, 0x7fffffffffffffff, 0xfff8000000000000, 0xfff0000000000001, 0xffffffffffffffff} {
				checkUnread(t, fmt.Sprintf("bits %x", bits), withPart(parts, i, binary.BigEndian.AppendUint64(nil, bits)...))
			}
			for _, bits := range []uint64{0, 1 << 63, 0x7ff0000000000000, 0xfff0000000000000, 1, 0x7fefffffffffffff, 0xffefffffffffffff} {
				if !isRead(t, "bits", withPart(parts, i, binary.BigEndian.AppendUint64(nil, bits)...)) {
					t.Errorf("bits %x are not read", bits)
				}
			}
		}
	}
	if met["flag"] != 6 || met["kind"] != 8 || met["bits"] != 1 {
		t.Error("parts:", met)
	}
	for kind := range 256 {
		for _, rest := range [][]byte{{}, {0}, {2}, {30}, {1}, {0, 0}, {2, 'a'}, {63, 248, 0, 0, 0, 0, 0, 0}} {
			image := imageAround(append([]byte{byte(kind)}, rest...)...)
			fits := len(rest) == 0 && kind == impl.KNil || kind == impl.KInt && len(rest) == 1 || kind == impl.KFlt && len(rest) == 8 ||
				kind == impl.KStr && (len(rest) == 1 && rest[0] == 0 || len(rest) == 2 && rest[0] == 2) ||
				len(rest) == 1 && rest[0]%2 == 0 && (kind == impl.KBool && rest[0] < 3 || kind == impl.KBuiltin && rest[0] < 29)
			if got := isRead(t, "kinds", image); got != fits {
				t.Errorf("kind %d with %v: %v", kind, rest, got)
			}
		}
	}
}

// P5: bytes that tell a code of the wrong shape.
func TestDecodeWrongShape(t *testing.T) {
	for told, c := range wrongShapes() {
		checkUnread(t, told, plainImage(c))
	}
	for op := -2; op < 60; op++ {
		c := codeOf(1, "tick; tick; jump 0")
		c.Protos[0].Ins[1].Op = op
		if got := isRead(t, fmt.Sprint("Op ", op), plainImage(c)); got != (plainShape(c).Code == 0) {
			t.Errorf("Op %d: %v", op, got)
		}
	}
}

// P5: every byte of an image changed to every other value: no code, or one of which these are the bytes.
func TestDecodeChangedBytes(t *testing.T) {
	t.Parallel()
	for _, c := range []impl.Code{shownCode(), everyOp(), guardedCode(), codeWithConst(vInt(leastInt))} {
		image := plainImage(c)
		read, unread := 0, 0
		for at, right := range image {
			for b := range 256 {
				if byte(b) == right {
					continue
				}
				image[at] = byte(b)
				if isRead(t, fmt.Sprint("byte ", at, " is ", b), image) {
					read++
				} else {
					unread++
				}
			}
			image[at] = right
		}
		if read < 100 || unread < 10*len(image) || !isRead(t, "as it was", image) {
			t.Error(read, "were read and", unread, "not")
		}
	}
}

// P5: images in which bytes are changed, put in, taken out or moved by chance; bytes by chance behind the first three.
func TestDecodeByChance(t *testing.T) {
	r := rand.New(rand.NewSource(12))
	read := 0
	for range 20000 {
		image := plainImage(shownCode())
		if r.Intn(3) == 0 {
			image = plainImage(guardedCode())
		}
		for range 1 + r.Intn(3) {
			at := 3 + r.Intn(len(image)-3)
			switch b := byte(r.Intn(256)) >> r.Intn(8); r.Intn(4) {
			case 0:
				image[at] = b
			case 1:
				image = slices.Insert(image, at, b)
			case 2:
				image = slices.Delete(image, at, min(len(image), at+1+r.Intn(5)))
			case 3:
				from := 3 + r.Intn(len(image)-3)
				image = slices.Insert(image, at, slices.Clone(image[from:min(len(image), from+r.Intn(8))])...)
			}
			if len(image) < 5 {
				break
			}
		}
		if isRead(t, "changed by chance", image) {
			read++
		}
	}
	if read < 300 {
		t.Error("only", read, "were read")
	}
	for range 20000 {
		junk := make([]byte, r.Intn(60))
		for i := range junk {
			junk[i] = byte(r.Intn(256)) >> r.Intn(8)
		}
		isRead(t, "by chance", append([]byte{72, 67, 1}, junk...))
	}
}

// P17: what Encode and Decode give shares nothing with what they are given or with a second answer, nor do the lists of one code.
func TestImagesAreNew(t *testing.T) {
	for _, c := range []impl.Code{shownCode(), guardedCode(), everyOp()} {
		told, want := codeTold(c), plainImage(c)
		image, second := impl.Encode(c), impl.Encode(c)
		read, again := impl.Decode(want), impl.Decode(want)
		for p := range read.Protos {
			mark(&read.Protos[p], -100*p-1)
		}
		for p := range read.Protos {
			checkMarks(t, read.Protos[p], -100*p-1)
		}
		if codeTold(again) != told || codeTold(impl.Decode(want)) != told || !slices.Equal(want, plainImage(c)) {
			t.Error("a second code or the image has changed")
		}
		clear(want)
		if codeTold(again) != told {
			t.Error("the code has changed with its image")
		}
		for i := range image[:cap(image)] {
			image[:cap(image)][i] = 9
		}
		if codeTold(c) != told || !slices.Equal(second, plainImage(c)) || !slices.Equal(impl.Encode(c), plainImage(c)) {
			t.Error("the code or a second image has changed")
		}
		for p := range c.Protos {
			mark(&c.Protos[p], 5)
		}
		if codeTold(impl.Decode(second)) != told {
			t.Error("the image has changed with its code")
		}
	}
}

// mark writes a number all over the lists of a proto, behind their ends too.
func mark(p *impl.Proto, n int) {
	for i := range p.Ups[:cap(p.Ups)] {
		p.Ups[:cap(p.Ups)][i].Index = n
	}
	for i := range p.Consts[:cap(p.Consts)] {
		p.Consts[:cap(p.Consts)][i] = vInt(int64(n - 1))
	}
	for i := range p.Ins[:cap(p.Ins)] {
		p.Ins[:cap(p.Ins)][i].Op = n - 2
	}
	for i := range p.Named[:cap(p.Named)] {
		p.Named[:cap(p.Named)][i].Reg = n - 3
	}
}

func checkMarks(t *testing.T, p impl.Proto, n int) {
	t.Helper()
	if slices.ContainsFunc(p.Ups, func(u impl.Up) bool { return u.Index != n }) ||
		slices.ContainsFunc(p.Consts, func(v impl.Value) bool { return v.Num != int64(n-1) }) ||
		slices.ContainsFunc(p.Ins, func(i impl.Ins) bool { return i.Op != n-2 }) ||
		slices.ContainsFunc(p.Named, func(v impl.Named) bool { return v.Reg != n-3 }) {
		t.Error("two lists share memory")
	}
}

// P17: nothing is written behind the ends of what is given, and the same arguments have the same answer.
func TestImagesWithRoom(t *testing.T) {
	c := shownCode()
	for p := range c.Protos {
		proto := &c.Protos[p]
		proto.Ups = append(proto.Ups, impl.Up{Index: -7})[:len(proto.Ups)]
		proto.Consts = append(proto.Consts, vInt(-7))[:len(proto.Consts)]
		proto.Ins = append(proto.Ins, impl.Ins{Op: -7})[:len(proto.Ins)]
		proto.Named = append(proto.Named, impl.Named{Reg: -7})[:len(proto.Named)]
	}
	image := append(shownImage(), 7, 7, 7)
	for range 3 {
		checkImage(t, "with room", c)
		if got := codeTold(impl.Decode(image[:len(image)-3])); got != codeTold(c) {
			t.Error("bytes with room are read as", got)
		}
	}
	if !slices.Equal(image, append(shownImage(), 7, 7, 7)) {
		t.Error("the bytes have changed")
	}
	for p, proto := range c.Protos {
		if proto.Ups[:len(proto.Ups)+1][len(proto.Ups)].Index != -7 || proto.Consts[:len(proto.Consts)+1][len(proto.Consts)].Num != -7 ||
			proto.Ins[:len(proto.Ins)+1][len(proto.Ins)].Op != -7 || proto.Named[:len(proto.Named)+1][len(proto.Named)].Reg != -7 {
			t.Error("something was written behind proto", p)
		}
	}
}
