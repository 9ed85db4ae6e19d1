package tests

import (
	"fmt"
	"math/rand"
	"slices"
	"testing"

	"loop.example/heddle/impl"
)

// P8: the constants of chapter 17.
func TestDiskConstants(t *testing.T) {
	got := []int{impl.BlockSize, impl.SlotBlocks, impl.Blocks, impl.MaxWaiting, impl.MaxGen}
	if want := []int{64, 128, 258, 200, 1000000000000}; !slices.Equal(got, want) {
		t.Errorf("constants %v, want %v", got, want)
	}
}

// P8: Blank has zeros everywhere, and nothing waits.
func TestDiskBlank(t *testing.T) {
	d := impl.Blank()
	if len(d.Blocks) != 258 || len(d.Waiting) != 0 || !impl.DiskOk(d) {
		t.Fatalf("%d blocks, %d writes", len(d.Blocks), len(d.Waiting))
	}
	for i, b := range d.Blocks {
		if !slices.Equal(b, full(0)) {
			t.Errorf("block %d: %v", i, b)
		}
	}
	checkDisk(t, "blank", d)
}

// P8: disks with a fault, each alone: DiskOk refuses them, and so do all other calls.
func TestDiskWrong(t *testing.T) {
	for told, d := range wrongDisks() {
		if impl.DiskOk(d) || plainDiskOk(d) {
			t.Errorf("%s: DiskOk", told)
		}
		checkDisk(t, told, d)
		for block := range 258 {
			if len(impl.ReadBlock(d, block)) != 0 {
				t.Errorf("%s: ReadBlock %d has bytes", told, block)
			}
		}
		for _, e := range []impl.Disk{impl.PutBlock(d, 0, full(1)), impl.Sync(d), impl.Crash(d, []bool{true}), impl.Apply(d, nil, 0), impl.Apply(d, []impl.DiskOp{{Sync: true}}, 1)} {
			if len(e.Blocks) != 0 || len(e.Waiting) != 0 {
				t.Errorf("%s: a disk: %s", told, shortly(diskTold(e)))
			}
		}
	}
}

// P8: writes to the first and the last block, and as many as may wait.
func TestDiskRight(t *testing.T) {
	d := plainBlank()
	for told, e := range map[string]impl.Disk{
		"write to 0":      waits(d, 0, full(1)),
		"write to 257":    waits(d, 257, full(1)),
		"block 0":         withBlock(d, 0, full(1)),
		"block 257":       withBlock(d, 257, full(255)),
		"empty, not nil":  {Blocks: d.Blocks, Waiting: []impl.Write{}},
		"200 writes":      {Blocks: d.Blocks, Waiting: slices.Repeat([]impl.Write{{Block: 9, Bytes: full(9)}}, 200)},
		"199 writes":      {Blocks: d.Blocks, Waiting: slices.Repeat([]impl.Write{{Block: 9, Bytes: full(9)}}, 199)},
		"one for another": waits(waits(d, 3, full(1)), 3, full(2)),
	} {
		if !impl.DiskOk(e) {
			t.Errorf("%s: not DiskOk", told)
		}
		checkDisk(t, told, e)
	}
}

// P8: PutBlock: which blocks and sizes there are, and how many writes may wait.
func TestDiskPutBlock(t *testing.T) {
	d := impl.Blank()
	for block, ok := range map[int]bool{leastInt: false, -1: false, 0: true, 1: true, 257: true, 258: false, mostInt: false} {
		e := impl.PutBlock(d, block, full(7))
		if impl.DiskOk(e) != ok || ok && (len(e.Waiting) != 1 || e.Waiting[0].Block != block || !slices.Equal(e.Waiting[0].Bytes, full(7))) {
			t.Errorf("block %d: %s", block, shortly(diskTold(e)))
		}
		if !ok && (len(e.Blocks) != 0 || len(e.Waiting) != 0) {
			t.Errorf("block %d: %s", block, shortly(diskTold(e)))
		}
	}
	for _, size := range []int{0, 1, 63, 64, 65, 128} {
		if e := impl.PutBlock(d, 4, counting(size, 1)); impl.DiskOk(e) != (size == 64) || len(e.Blocks) != 0 != (size == 64) {
			t.Errorf("%d bytes: %s", size, shortly(diskTold(e)))
		}
	}
	for i := range 200 {
		e := impl.PutBlock(d, i%3, full(byte(i)))
		wantTold(t, fmt.Sprint("write ", i), diskTold(e), diskTold(waits(d, i%3, full(byte(i)))))
		d = e
	}
	if !impl.DiskOk(d) || !slices.Equal(impl.ReadBlock(d, 199%3), full(199)) || !slices.Equal(d.Blocks[0], full(0)) {
		t.Errorf("200 writes: %s", shortly(diskTold(d)))
	}
	for _, block := range []int{0, 1, 200} {
		if e := impl.PutBlock(d, block, full(1)); len(e.Blocks) != 0 || len(e.Waiting) != 0 {
			t.Errorf("write 201: %s", shortly(diskTold(e)))
		}
	}
}

// writes: a disk with writes that wait, to blocks that have something already: write i has the byte i + 1 everywhere.
func writes(blocks ...int) impl.Disk {
	d := withBlock(withBlock(plainBlank(), 3, full(33)), 257, full(57))
	for i, block := range blocks {
		d = waits(d, block, full(byte(i+1)))
	}
	return d
}

// P8: Sync carries out all writes, in order; nothing waits then, and a second one changes nothing.
func TestDiskSync(t *testing.T) {
	for _, blocks := range [][]int{nil, {3}, {3, 3, 3}, {0, 3, 257}, {257, 3, 0, 3, 0}, {1, 1, 2, 1}} {
		d := writes(blocks...)
		s := impl.Sync(d)
		want := map[int]byte{3: 33, 257: 57}
		for i, block := range blocks {
			want[block] = byte(i + 1)
		}
		for block := range 258 {
			if !slices.Equal(s.Blocks[block], full(want[block])) {
				t.Errorf("writes to %v: block %d: %v", blocks, block, s.Blocks[block])
			}
		}
		if len(s.Waiting) != 0 {
			t.Errorf("writes to %v: %d wait", blocks, len(s.Waiting))
		}
		wantTold(t, "Sync twice", diskTold(impl.Sync(s)), diskTold(s))
		checkDisk(t, fmt.Sprint("writes to ", blocks), d)
	}
}

// P8: ReadBlock: every block, with no write, with one and with several that wait.
func TestDiskReadBlock(t *testing.T) {
	d := writes(0, 3, 5, 3, 257, 257, 3)
	want := map[int]byte{0: 1, 3: 7, 5: 3, 257: 6}
	for block := range 258 {
		if got := impl.ReadBlock(d, block); !slices.Equal(got, full(want[block])) {
			t.Errorf("block %d: %v", block, got)
		}
	}
	kept := writes()
	for block, x := range map[int]byte{0: 0, 3: 33, 256: 0, 257: 57} {
		if got := impl.ReadBlock(kept, block); !slices.Equal(got, full(x)) {
			t.Errorf("kept block %d: %v", block, got)
		}
	}
	for _, block := range []int{leastInt, -1, 258, mostInt} {
		if got := impl.ReadBlock(d, block); len(got) != 0 {
			t.Errorf("block %d: %v", block, got)
		}
	}
}

// P8: Crash with every choice of what is kept, of writes of which some are to one block, and with fewer and more entries than writes.
func TestDiskCrash(t *testing.T) {
	blocks := []int{3, 0, 3, 257, 3}
	d := writes(blocks...)
	for size := range 8 {
		for choice := range 1 << size {
			kept := make([]bool, size)
			want := map[int]byte{3: 33, 257: 57}
			for i := range kept {
				kept[i] = choice>>i&1 == 1
				if kept[i] && i < len(blocks) {
					want[blocks[i]] = byte(i + 1)
				}
			}
			e := impl.Crash(d, kept)
			if !impl.DiskOk(e) || len(e.Waiting) != 0 {
				t.Fatalf("kept %v: %s", kept, shortly(diskTold(e)))
			}
			for _, block := range []int{0, 1, 2, 3, 4, 256, 257} {
				if !slices.Equal(e.Blocks[block], full(want[block])) {
					t.Errorf("kept %v: block %d: %v", kept, block, e.Blocks[block])
				}
			}
			wantTold(t, fmt.Sprint("kept ", kept), diskTold(e), diskTold(plainCrash(d, kept)))
		}
	}
	all := slices.Repeat([]bool{true}, len(blocks))
	wantTold(t, "all kept", diskTold(impl.Crash(d, all)), diskTold(impl.Sync(d)))
	wantTold(t, "nothing waits", diskTold(impl.Crash(impl.Sync(d), all)), diskTold(impl.Sync(d)))
}

// P8: all calls with disks by chance, right ones and spoiled ones.
func TestDiskDrawn(t *testing.T) {
	t.Parallel()
	for seed := range int64(150) {
		rng := rand.New(rand.NewSource(seed))
		d := drawnDisk(rng)
		checkDisk(t, fmt.Sprint("seed ", seed), d)
		switch rng.Intn(4) {
		case 0:
			d.Blocks[rng.Intn(258)] = make([]byte, 60+rng.Intn(9))
		case 1:
			d.Waiting = append(d.Waiting, impl.Write{Block: rng.Intn(262) - 2, Bytes: make([]byte, 62+rng.Intn(5))})
		case 2:
			d.Blocks = d.Blocks[:250+rng.Intn(9)]
		default:
			d.Waiting = slices.Repeat([]impl.Write{{Block: rng.Intn(258), Bytes: full(8)}}, 198+rng.Intn(5))
		}
		checkDisk(t, fmt.Sprint("seed ", seed, " spoiled"), d)
	}
}
