package tests

import (
	"bytes"
	"encoding/binary"
	"fmt"
	"math/rand"
	"slices"
	"strings"
	"testing"

	"loop.example/heddle/impl"
)

// full: a block with the same byte everywhere.
func full(x byte) []byte { return bytes.Repeat([]byte{x}, 64) }

// counting: bytes that differ from one block to the next.
func counting(count int, from byte) []byte {
	b := make([]byte, count)
	for i := range b {
		b[i] = from + byte(i) + byte(i/64)*7
	}
	return b
}

// diskTold: the sizes of a disk, its blocks that are not 64 zeros, and its writes.
func diskTold(d impl.Disk) string {
	var b strings.Builder
	fmt.Fprintf(&b, "%d blocks, %d writes", len(d.Blocks), len(d.Waiting))
	for i, block := range d.Blocks {
		if !slices.Equal(block, full(0)) {
			fmt.Fprintf(&b, "; block %d %x", i, block)
		}
	}
	for _, w := range d.Waiting {
		fmt.Fprintf(&b, "; write %d %x", w.Block, w.Bytes)
	}
	return b.String()
}

func opsTold(ops []impl.DiskOp) string {
	var b strings.Builder
	for _, op := range ops {
		fmt.Fprintf(&b, "%v %d %x; ", op.Sync, op.Block, op.Bytes)
	}
	return b.String()
}

func copiedDisk(d impl.Disk) impl.Disk {
	var c impl.Disk
	for _, block := range d.Blocks {
		c.Blocks = append(c.Blocks, slices.Clone(block))
	}
	for _, w := range d.Waiting {
		c.Waiting = append(c.Waiting, impl.Write{Block: w.Block, Bytes: slices.Clone(w.Bytes)})
	}
	return c
}

// waits: a disk on which a write more waits, whatever it is.
func waits(d impl.Disk, block int, b []byte) impl.Disk {
	d = copiedDisk(d)
	d.Waiting = append(d.Waiting, impl.Write{Block: block, Bytes: b})
	return d
}

// withBlock: a disk with other bytes in a block.
func withBlock(d impl.Disk, block int, b []byte) impl.Disk {
	d = copiedDisk(d)
	d.Blocks[block] = b
	return d
}

func plainDiskOk(d impl.Disk) bool {
	ok := len(d.Blocks) == 258 && len(d.Waiting) <= 200
	for _, block := range d.Blocks {
		ok = ok && len(block) == 64
	}
	for _, w := range d.Waiting {
		ok = ok && w.Block >= 0 && w.Block <= 257 && len(w.Bytes) == 64
	}
	return ok
}

// plainKeep: the disk with those of its writes carried out that are to be kept.
func plainKeep(d impl.Disk, keep func(i int) bool) impl.Disk {
	if !plainDiskOk(d) {
		return impl.Disk{}
	}
	c := copiedDisk(d)
	for i, w := range c.Waiting {
		if keep(i) {
			c.Blocks[w.Block] = w.Bytes
		}
	}
	c.Waiting = nil
	return c
}

func plainSync(d impl.Disk) impl.Disk { return plainKeep(d, func(int) bool { return true }) }

func plainCrash(d impl.Disk, kept []bool) impl.Disk {
	return plainKeep(d, func(i int) bool { return i < len(kept) && kept[i] })
}

func plainPutBlock(d impl.Disk, block int, b []byte) impl.Disk {
	if c := waits(d, block, slices.Clone(b)); plainDiskOk(d) && plainDiskOk(c) {
		return c
	}
	return impl.Disk{}
}

func plainReadBlock(d impl.Disk, block int) []byte {
	if !plainDiskOk(d) || block < 0 || block > 257 {
		return nil
	}
	for i := len(d.Waiting) - 1; i >= 0; i-- {
		if d.Waiting[i].Block == block {
			return d.Waiting[i].Bytes
		}
	}
	return d.Blocks[block]
}

// looseHead: the block of a head, whatever its numbers are.
func looseHead(gen, length, sum int64) []byte {
	b := []byte("HEAD")
	for _, n := range []int64{gen, length, sum} {
		b = binary.LittleEndian.AppendUint64(b, uint64(n))
	}
	return append(sealed(b), make([]byte, 28)...)
}

func plainHeadBlock(h impl.Head) []byte {
	if !h.Ok || h.Gen < 1 || h.Gen > 1000000000000 || h.Len < 1 || h.Len > 8192 {
		return nil
	}
	return looseHead(int64(h.Gen), int64(h.Len), h.Sum)
}

func plainHeadOf(d impl.Disk, slot int) impl.Head {
	if slot != 0 && slot != 1 {
		return impl.Head{}
	}
	b := plainReadBlock(d, slot)
	if len(b) != 64 || string(b[:4]) != "HEAD" || !slices.Equal(b[:36], sealed(b[:28])) || !slices.Equal(b[36:], make([]byte, 28)) {
		return impl.Head{}
	}
	gen, length, sum := binary.LittleEndian.Uint64(b[4:]), binary.LittleEndian.Uint64(b[12:]), binary.LittleEndian.Uint64(b[20:])
	if gen == 0 || gen > 1000000000000 || length == 0 || length > 8192 {
		return impl.Head{}
	}
	return impl.Head{Ok: true, Gen: int(gen), Len: int(length), Sum: int64(sum)}
}

// plainSlot: the image of a slot, when it is whole.
func plainSlot(d impl.Disk, slot int) impl.KeptImage {
	h := plainHeadOf(d, slot)
	var image []byte
	for block := 2 + 128*slot; len(image) < h.Len; block++ {
		image = append(image, plainReadBlock(d, block)...)
	}
	image = image[:h.Len]
	if !h.Ok || plainSum(image) != h.Sum {
		return impl.KeptImage{}
	}
	return impl.KeptImage{Ok: true, Gen: h.Gen, Slot: slot, Bytes: image}
}

func plainNewest(d impl.Disk) impl.KeptImage {
	zero, one := plainSlot(d, 0), plainSlot(d, 1)
	if zero.Ok && (!one.Ok || zero.Gen >= one.Gen) {
		return zero
	}
	return one
}

func plainOps(d impl.Disk, image []byte) []impl.DiskOp {
	newest := plainNewest(d)
	if !plainDiskOk(d) || len(d.Waiting) > 0 || len(image) < 1 || len(image) > 8192 || newest.Gen == 1000000000000 {
		return nil
	}
	head, first := 0, 2
	if newest.Ok && newest.Slot == 0 {
		head, first = 1, 130
	}
	padded := append(slices.Clone(image), make([]byte, 63)...)
	var ops []impl.DiskOp
	for at := 0; at < len(image); at += 64 {
		ops = append(ops, impl.DiskOp{Block: first + at/64, Bytes: padded[at : at+64]})
	}
	return append(ops, impl.DiskOp{Sync: true}, impl.DiskOp{Block: head, Bytes: looseHead(int64(newest.Gen+1), int64(len(image)), plainSum(image))}, impl.DiskOp{Sync: true})
}

func plainApply(d impl.Disk, ops []impl.DiskOp, n int) impl.Disk {
	if n < 0 || n > len(ops) || !plainDiskOk(d) {
		return impl.Disk{}
	}
	for _, op := range ops[:n] {
		if op.Sync {
			d = plainSync(d)
		} else {
			d = plainPutBlock(d, op.Block, op.Bytes)
		}
	}
	return d
}

func keptTold(k impl.KeptImage) string {
	return fmt.Sprintf("%v gen %d slot %d: %d bytes %x", k.Ok, k.Gen, k.Slot, len(k.Bytes), k.Bytes)
}

// wantTold: what is told of an answer is this.
func wantTold(t *testing.T, told, got, want string) {
	t.Helper()
	if got != want {
		t.Errorf("%s: %s, want %s", told, shortly(got), shortly(want))
	}
}

// checkDisk: all calls with this disk, as DiskOk wants it or not, answer what the plain ones answer, and leave it as it was.
func checkDisk(t *testing.T, told string, d impl.Disk) {
	t.Helper()
	before := diskTold(d)
	if got := impl.DiskOk(d); got != plainDiskOk(d) {
		t.Errorf("%s: DiskOk %v: %s", told, got, shortly(before))
	}
	for _, block := range []int{leastInt, -1, 0, 1, 2, 3, 129, 130, 131, 257, 258, mostInt} {
		wantTold(t, fmt.Sprint(told, ": ReadBlock ", block), fmt.Sprint(impl.ReadBlock(d, block)), fmt.Sprint(plainReadBlock(d, block)))
		checkPut(t, told, d, block, full(77))
	}
	for _, size := range []int{0, 1, 63, 65, 128} {
		checkPut(t, told, d, 3, make([]byte, size))
	}
	wantTold(t, told+": Sync", diskTold(impl.Sync(d)), diskTold(plainSync(d)))
	for _, kept := range [][]bool{nil, {true}, {false, true}, slices.Repeat([]bool{true}, 300), slices.Repeat([]bool{true, false}, 100)} {
		wantTold(t, told+": Crash", diskTold(impl.Crash(d, kept)), diskTold(plainCrash(d, kept)))
	}
	for _, slot := range []int{leastInt, -1, 0, 1, 2, 130, mostInt} {
		wantTold(t, fmt.Sprint(told, ": HeadOf ", slot), fmt.Sprint(impl.HeadOf(d, slot)), fmt.Sprint(plainHeadOf(d, slot)))
	}
	wantTold(t, told+": Newest", keptTold(impl.Newest(d)), keptTold(plainNewest(d)))
	for _, image := range [][]byte{nil, {9}, counting(64, 3), counting(130, 9), make([]byte, 8193)} {
		ops := impl.Ops(d, image)
		wantTold(t, fmt.Sprint(told, ": Ops for ", len(image), " bytes"), opsTold(ops), opsTold(plainOps(d, image)))
		for _, n := range []int{0, 1, len(ops) - 1, len(ops), len(ops) + 1} {
			checkApply(t, told, d, ops, n)
		}
	}
	wantTold(t, told+": the disk has changed", diskTold(d), before)
}

func checkPut(t *testing.T, told string, d impl.Disk, block int, b []byte) {
	t.Helper()
	told = fmt.Sprint(told, ": PutBlock ", block, " of ", len(b), " bytes")
	wantTold(t, told, diskTold(impl.PutBlock(d, block, b)), diskTold(plainPutBlock(d, block, b)))
}

func checkApply(t *testing.T, told string, d impl.Disk, ops []impl.DiskOp, n int) {
	t.Helper()
	before := opsTold(ops)
	wantTold(t, fmt.Sprint(told, ": Apply ", n, " of ", len(ops)), diskTold(impl.Apply(d, ops, n)), diskTold(plainApply(d, ops, n)))
	wantTold(t, told+": Apply: the ops have changed", opsTold(ops), before)
}

// laid: a disk with an image laid down in a slot, as the plain calls write it.
func laid(d impl.Disk, slot, gen int, image []byte) impl.Disk {
	d = copiedDisk(d)
	d.Blocks[slot] = looseHead(int64(gen), int64(len(image)), plainSum(image))
	for at := 0; at < len(image); at += 64 {
		d.Blocks[2+128*slot+at/64] = append(slices.Clone(image[at:min(at+64, len(image))]), make([]byte, max(0, at+64-len(image)))...)
	}
	return d
}

// plainBlank: a disk of zeros.
func plainBlank() impl.Disk {
	var d impl.Disk
	for range 258 {
		d.Blocks = append(d.Blocks, full(0))
	}
	return d
}

// drawnDisk: a disk by chance: with images, whole and spoiled, and writes that wait over them.
func drawnDisk(rng *rand.Rand) impl.Disk {
	d := plainBlank()
	for slot := range 2 {
		if rng.Intn(4) != 0 {
			d = laid(d, slot, 1+rng.Intn(4), counting(1+rng.Intn(300), byte(rng.Intn(256))))
		}
	}
	d.Blocks[rng.Intn(258)] = full(byte(rng.Intn(256)))
	blocks := []int{0, 1, 2, 3, 130, 131, 257}
	for range rng.Intn(7) * rng.Intn(2) {
		over := laid(d, rng.Intn(2), 1+rng.Intn(6), counting(1+rng.Intn(200), byte(rng.Intn(256))))
		block := blocks[rng.Intn(len(blocks))]
		d.Waiting = append(d.Waiting, impl.Write{Block: block, Bytes: slices.Clone(over.Blocks[block])})
	}
	return d
}

// wrongDisks: disks that are not as DiskOk wants them, each for one reason.
func wrongDisks() map[string]impl.Disk {
	blank := plainBlank()
	all := map[string]impl.Disk{
		"no disk":         {},
		"no blocks":       {Blocks: [][]byte{}},
		"only a write":    {Waiting: []impl.Write{{Block: 0, Bytes: full(1)}}},
		"a block too few": {Blocks: plainBlank().Blocks[1:]},
		"a block more":    {Blocks: append(plainBlank().Blocks, full(0))},
	}
	for _, block := range []int{0, 1, 2, 130, 257} {
		for _, size := range []int{0, 1, 63, 65, 128} {
			all[fmt.Sprint("block ", block, " of ", size, " bytes")] = withBlock(blank, block, make([]byte, size))
		}
	}
	for _, ahead := range []int{0, 3} {
		d := blank
		for i := range ahead {
			d = waits(d, 5+i, full(byte(i)))
		}
		for _, block := range []int{leastInt, -1, 258, 259, mostInt} {
			all[fmt.Sprint("write ", ahead, " to ", block)] = waits(d, block, full(1))
			all[fmt.Sprint("write ", ahead, " to ", block, " ahead of another")] = waits(waits(d, block, full(1)), 7, full(2))
		}
		for _, size := range []int{0, 63, 65, 128} {
			all[fmt.Sprint("write ", ahead, " of ", size, " bytes")] = waits(d, 257, make([]byte, size))
		}
	}
	many := blank
	many.Waiting = slices.Repeat([]impl.Write{{Block: 9, Bytes: full(9)}}, 201)
	all["a write too many"] = many
	return all
}
