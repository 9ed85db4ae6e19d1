package tests

import (
	"encoding/binary"
	"encoding/hex"
	"fmt"
	"slices"
	"testing"

	"loop.example/heddle/impl"
)

// P8: the blocks of heads, byte by byte.
func TestHeadBlocks(t *testing.T) {
	for _, c := range []struct {
		head impl.Head
		want string
	}{
		{impl.Head{Ok: true, Gen: 1, Len: 1}, "48454144" + "0100000000000000" + "0100000000000000" + "0000000000000000" + "835e3b70506f39e1"},
		{impl.Head{Ok: true, Gen: 258, Len: 65, Sum: -1}, "48454144" + "0201000000000000" + "4100000000000000" + "ffffffffffffffff" + "bfa49ae0c599b5cd"},
		{impl.Head{Ok: true, Gen: 1000000000000, Len: 8192, Sum: leastInt}, "48454144" + "0010a5d4e8000000" + "0020000000000000" + "0000000000000080" + "322975b15d8d4c5a"},
		{impl.Head{Ok: true, Gen: 0x123456789a, Len: 0x1234, Sum: 0x0102030405060708}, "48454144" + "9a78563412000000" + "3412000000000000" + "0807060504030201" + "afd43aa73f721820"},
	} {
		want, err := hex.DecodeString(c.want)
		if err != nil {
			t.Fatal(err)
		}
		want = append(want, make([]byte, 28)...)
		got := impl.HeadBlock(c.head)
		if !slices.Equal(got, want) || !slices.Equal(plainHeadBlock(c.head), want) {
			t.Errorf("%v: %x, want %x", c.head, got, want)
		}
		for slot := range 2 {
			d := withBlock(plainBlank(), slot, want)
			if got := impl.HeadOf(d, slot); got != c.head {
				t.Errorf("slot %d: %v, want %v", slot, got, c.head)
			}
		}
	}
}

// P8: HeadBlock: Ok, Gen and Len at the edges of their ranges and beyond them, and any sum.
func TestHeadRanges(t *testing.T) {
	edges := func(most int) []int { return []int{leastInt, -1, 0, 1, 2, most - 1, most, most + 1, mostInt} }
	for _, gen := range edges(1000000000000) {
		for _, length := range edges(8192) {
			for _, sum := range []int64{leastInt, -1, 0, 1, mostInt} {
				for _, ok := range []bool{false, true} {
					h := impl.Head{Ok: ok, Gen: gen, Len: length, Sum: sum}
					in := ok && gen >= 1 && gen <= 1000000000000 && length >= 1 && length <= 8192
					got := impl.HeadBlock(h)
					if len(got) != 0 != in || !slices.Equal(got, plainHeadBlock(h)) {
						t.Errorf("%v: %x", h, got)
					}
				}
			}
		}
	}
}

// P8: HeadOf: a head that is kept and one that waits, in both slots, and slots that there are not.
func TestHeadOfSlots(t *testing.T) {
	one, two := impl.Head{Ok: true, Gen: 7, Len: 100, Sum: -5}, impl.Head{Ok: true, Gen: 9, Len: 8192, Sum: 1 << 60}
	both := withBlock(withBlock(plainBlank(), 0, plainHeadBlock(one)), 1, plainHeadBlock(two))
	for told, c := range map[string]struct {
		disk impl.Disk
		want [2]impl.Head
	}{
		"none":              {plainBlank(), [2]impl.Head{}},
		"slot 0":            {withBlock(plainBlank(), 0, plainHeadBlock(one)), [2]impl.Head{one, {}}},
		"slot 1":            {withBlock(plainBlank(), 1, plainHeadBlock(one)), [2]impl.Head{{}, one}},
		"both":              {both, [2]impl.Head{one, two}},
		"in another block":  {withBlock(plainBlank(), 2, plainHeadBlock(one)), [2]impl.Head{}},
		"waits on 0":        {waits(plainBlank(), 0, plainHeadBlock(one)), [2]impl.Head{one, {}}},
		"waits over 1":      {waits(both, 1, plainHeadBlock(one)), [2]impl.Head{one, one}},
		"another over it":   {waits(waits(both, 1, plainHeadBlock(one)), 1, plainHeadBlock(two)), [2]impl.Head{one, two}},
		"zeros wait over 0": {waits(both, 0, full(0)), [2]impl.Head{{}, two}},
	} {
		for slot, want := range c.want {
			if got := impl.HeadOf(c.disk, slot); got != want {
				t.Errorf("%s: slot %d: %v, want %v", told, slot, got, want)
			}
		}
		for _, slot := range []int{leastInt, -1, 2, 3, 128, mostInt} {
			if got := impl.HeadOf(c.disk, slot); got != (impl.Head{}) {
				t.Errorf("%s: slot %d: %v", told, slot, got)
			}
		}
		checkDisk(t, told, c.disk)
	}
}

// P8: HeadOf: each byte of a head's block changed, every bit of it alone and all of them, is no head; under a sum made anew only what stays one.
func TestHeadOfBytes(t *testing.T) {
	h := impl.Head{Ok: true, Gen: 300, Len: 77, Sum: 123456789}
	whole := plainHeadBlock(h)
	for slot := range 2 {
		for at := range whole {
			for _, mask := range []byte{1, 2, 4, 8, 16, 32, 64, 128, 255} {
				b := slices.Clone(whole)
				b[at] ^= mask
				told := fmt.Sprint("slot ", slot, " byte ", at, " mask ", mask)
				if got := impl.HeadOf(withBlock(plainBlank(), slot, b), slot); got != (impl.Head{}) {
					t.Errorf("%s: %v", told, got)
				}
				if got := impl.HeadOf(waits(plainBlank(), slot, b), slot); got != (impl.Head{}) {
					t.Errorf("%s, waiting: %v", told, got)
				}
				if at < 28 {
					b = append(sealed(b[:28]), b[36:]...)
				}
				d := withBlock(plainBlank(), slot, b)
				got := impl.HeadOf(d, slot)
				if got != plainHeadOf(d, slot) || got.Ok && (at < 4 || at >= 28) {
					t.Errorf("%s, with its sum: %v", told, got)
				}
			}
		}
	}
}

// P8: HeadOf: Gen and Len out of their ranges under a right sum, and numbers of 8 bytes that no int has.
func TestHeadOfRanges(t *testing.T) {
	edges := func(most int64) []int64 {
		return []int64{leastInt, leastInt + 1, -most, -1, 0, 1, most, most + 1, 1 << 32, 1<<32 + 1, 1 << 40, mostInt}
	}
	for _, gen := range edges(1000000000000) {
		for _, length := range edges(8192) {
			d := withBlock(plainBlank(), 1, looseHead(gen, length, -9))
			want := impl.Head{}
			if gen >= 1 && gen <= 1000000000000 && length >= 1 && length <= 8192 {
				want = impl.Head{Ok: true, Gen: int(gen), Len: int(length), Sum: -9}
			}
			if got := impl.HeadOf(d, 1); got != want {
				t.Errorf("gen %d len %d: %v, want %v", gen, length, got, want)
			}
			if impl.Newest(d).Ok {
				t.Errorf("gen %d len %d: an image", gen, length)
			}
		}
	}
}

func checkNewest(t *testing.T, told string, d impl.Disk, slot, gen int, image []byte) {
	t.Helper()
	want := impl.KeptImage{Ok: gen != 0, Gen: gen, Slot: slot, Bytes: image}
	wantTold(t, told, keptTold(impl.Newest(d)), keptTold(want))
	wantTold(t, told+", plainly", keptTold(plainNewest(d)), keptTold(want))
}

// P8: Newest: none, either one alone, and both with all orders of their Gens.
func TestNewestOfTwo(t *testing.T) {
	a, b := counting(100, 1), counting(130, 50)
	blank := plainBlank()
	checkNewest(t, "none", blank, 0, 0, nil)
	checkNewest(t, "slot 0 alone", laid(blank, 0, 5, a), 0, 5, a)
	checkNewest(t, "slot 1 alone", laid(blank, 1, 5, b), 1, 5, b)
	for _, gens := range [][2]int{{1, 2}, {4, 5}, {1, 1000000000000}, {255, 256}, {999999999999, 1000000000000}} {
		less, more := gens[0], gens[1]
		checkNewest(t, "slot 0 less", laid(laid(blank, 0, less, a), 1, more, b), 1, more, b)
		checkNewest(t, "slot 0 greater", laid(laid(blank, 0, more, a), 1, less, b), 0, more, a)
		checkNewest(t, "the same", laid(laid(blank, 0, more, a), 1, more, b), 0, more, a)
	}
	two := laid(laid(blank, 0, 7, a), 1, 8, b)
	checkDisk(t, "both", two)
	for told, d := range wrongDisks() {
		if len(d.Blocks) != 258 {
			continue
		}
		d = copiedDisk(d)
		for block := range 258 {
			if len(d.Blocks[block]) == 64 {
				d.Blocks[block] = two.Blocks[block]
			}
		}
		checkNewest(t, told, d, 0, 0, nil)
	}
}

// P8: Newest: an image with each of its bytes changed is not whole, one with a byte changed behind it is; a head without its image.
func TestNewestSpoiled(t *testing.T) {
	a, b := counting(100, 1), counting(130, 50)
	for slot := range 2 {
		d := laid(laid(plainBlank(), slot, 9, b), 1-slot, 8, a)
		first := 2 + 128*slot
		for at := range 192 {
			e := copiedDisk(d)
			e.Blocks[first+at/64][at%64] ^= 64
			if at < len(b) {
				checkNewest(t, fmt.Sprint("byte ", at), e, 1-slot, 8, a)
			} else {
				checkNewest(t, fmt.Sprint("byte ", at), e, slot, 9, b)
			}
			e.Blocks[1-slot] = full(0)
			if at < len(b) {
				checkNewest(t, fmt.Sprint("byte ", at, " alone"), e, 0, 0, nil)
			}
		}
		e := copiedDisk(d)
		for block := first; block < first+3; block++ {
			e.Blocks[block] = full(0)
		}
		checkNewest(t, "no image", e, 1-slot, 8, a)
		checkNewest(t, "no head", withBlock(d, slot, full(0)), 1-slot, 8, a)
		checkNewest(t, "the other's head", withBlock(d, slot, d.Blocks[1-slot]), 1-slot, 8, a)
	}
}

// P8: Newest: images of one block, of whole blocks, of all blocks of a slot; a slot's last block is not the next one's.
func TestNewestSizes(t *testing.T) {
	for slot := range 2 {
		for _, size := range []int{1, 63, 64, 65, 127, 128, 129, 8127, 8128, 8129, 8191, 8192} {
			image := counting(size, byte(size))
			d := laid(plainBlank(), slot, 3, image)
			checkNewest(t, fmt.Sprint(size, " bytes in slot ", slot), d, slot, 3, image)
			last := 2 + 128*slot + (size-1)/64
			d.Blocks[last][(size-1)%64]++
			checkNewest(t, fmt.Sprint(size, " bytes, the last one changed"), d, 0, 0, nil)
		}
		zeros := make([]byte, 300)
		d := withBlock(plainBlank(), slot, looseHead(2, 300, plainSum(zeros)))
		checkNewest(t, "zeros", d, slot, 2, zeros)
		d = withBlock(plainBlank(), slot, looseHead(2, 8193, plainSum(make([]byte, 8193))))
		checkNewest(t, "too long", d, 0, 0, nil)
	}
	full := counting(8192, 9)
	checkNewest(t, "both full", laid(laid(plainBlank(), 0, 6, full), 1, 5, counting(8192, 77)), 0, 6, full)
}

// P8: Newest: writes that wait over heads and images count as read; the last of them to a block does.
func TestNewestWaiting(t *testing.T) {
	a, b, c := counting(100, 1), counting(130, 50), counting(70, 99)
	d := laid(laid(plainBlank(), 0, 4, a), 1, 5, b)
	over := laid(d, 0, 6, c)
	image := waits(waits(d, 2, over.Blocks[2]), 3, over.Blocks[3])
	checkNewest(t, "an image over the older one", image, 1, 5, b)
	head := waits(image, 0, over.Blocks[0])
	checkNewest(t, "and its head", head, 0, 6, c)
	checkNewest(t, "and zeros over this", waits(head, 0, full(0)), 1, 5, b)
	checkNewest(t, "and the head again", waits(waits(head, 0, full(0)), 0, over.Blocks[0]), 0, 6, c)
	checkNewest(t, "only the head", waits(d, 0, over.Blocks[0]), 1, 5, b)
	checkNewest(t, "a byte over the newest image", waits(d, 131, full(1)), 0, 4, a)
	checkNewest(t, "and what was there", waits(waits(d, 131, full(1)), 131, d.Blocks[131]), 1, 5, b)
	checkNewest(t, "a block behind the image", waits(d, 133, full(1)), 1, 5, b)
	checkDisk(t, "waiting heads", head)
}

// P8: no answer for heads hangs on numbers read with the highest byte first.
func TestHeadOrderOfBytes(t *testing.T) {
	b := []byte("HEAD")
	for _, n := range []uint64{3, 2, 1} {
		b = binary.BigEndian.AppendUint64(b, n)
	}
	b = append(sealed(b), make([]byte, 28)...)
	if got := impl.HeadOf(withBlock(plainBlank(), 0, b), 0); got.Ok {
		t.Errorf("%v", got)
	}
}
