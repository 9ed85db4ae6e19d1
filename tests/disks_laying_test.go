package tests

import (
	"bytes"
	"fmt"
	"math/rand"
	"slices"
	"testing"

	"loop.example/heddle/impl"
)

// P8: Ops for images of all sizes, onto a blank disk, behind a laying-down in slot 0 and behind one in slot 1.
func TestOpsSizes(t *testing.T) {
	blank := plainBlank()
	first := laid(blank, 0, 41, counting(90, 3))
	second := laid(first, 1, 42, counting(500, 4))
	for _, c := range []struct {
		told             string
		disk             impl.Disk
		head, block, gen int
	}{
		{"blank", blank, 0, 2, 1},
		{"behind slot 0", first, 1, 130, 42},
		{"behind slot 1", second, 0, 2, 43},
		{"slot 1 alone", laid(blank, 1, 7, []byte{1}), 0, 2, 8},
		{"the same Gen in both", laid(laid(blank, 0, 7, []byte{1}), 1, 7, []byte{2}), 1, 130, 8},
		{"a greater Gen that is not whole", withBlock(second, 131, full(0)), 1, 130, 42},
	} {
		for _, size := range []int{1, 2, 63, 64, 65, 127, 128, 129, 8128, 8129, 8191, 8192} {
			image := counting(size, 11)
			told := fmt.Sprint(c.told, ": ", size, " bytes")
			ops := impl.Ops(c.disk, image)
			count := (size + 63) / 64
			if len(ops) != count+3 {
				t.Errorf("%s: %d ops", told, len(ops))
				continue
			}
			var all []byte
			for i, op := range ops[:count] {
				if op.Sync || op.Block != c.block+i || len(op.Bytes) != 64 {
					t.Errorf("%s: op %d: %v", told, i, op)
				}
				all = append(all, op.Bytes...)
			}
			if !bytes.Equal(all[:size], image) || !bytes.Equal(all[size:], make([]byte, len(all)-size)) {
				t.Errorf("%s: the image's blocks are %x", told, all)
			}
			head := impl.DiskOp{Block: c.head, Bytes: looseHead(int64(c.gen), int64(size), plainSum(image))}
			wantTold(t, told, opsTold(ops[count:]), opsTold([]impl.DiskOp{{Sync: true}, head, {Sync: true}}))
			checkNewest(t, told, impl.Apply(c.disk, ops, len(ops)), c.head, c.gen, image)
		}
	}
}

// P8: Ops: nothing for no image, for one that is too long, with a write that waits, behind the last Gen, and for what is no disk.
func TestOpsNone(t *testing.T) {
	image := counting(65, 1)
	last := laid(plainBlank(), 1, 1000000000000, counting(5, 5))
	next := laid(plainBlank(), 1, 999999999999, counting(5, 5))
	none := func(told string, d impl.Disk, image []byte) {
		t.Helper()
		if ops := impl.Ops(d, image); len(ops) != 0 {
			t.Errorf("%s: %s", told, shortly(opsTold(ops)))
		}
	}
	none("no image", plainBlank(), nil)
	none("an empty image", plainBlank(), []byte{})
	none("8193 bytes", plainBlank(), make([]byte, 8193))
	none("100000 bytes", plainBlank(), make([]byte, 100000))
	none("a write waits", waits(plainBlank(), 200, full(0)), image)
	none("a write waits that is kept already", waits(next, 1, next.Blocks[1]), image)
	none("Gen at its end", last, image)
	none("Gen at its end, in slot 0", laid(next, 0, 1000000000000, image), image)
	for told, d := range wrongDisks() {
		none(told, d, image)
	}
	if ops := impl.Ops(next, image); len(ops) != 5 || !slices.Equal(ops[3].Bytes, looseHead(1000000000000, 65, plainSum(image))) {
		t.Errorf("the last Gen: %s", opsTold(ops))
	}
	spoiled := withBlock(last, 130, full(9))
	if ops := impl.Ops(spoiled, image); len(ops) != 5 || ops[0].Block != 2 || !slices.Equal(ops[3].Bytes, looseHead(1, 65, plainSum(image))) {
		t.Errorf("the last Gen, not whole: %s", opsTold(ops))
	}
	checkDisk(t, "Gen at its end", last)
	checkDisk(t, "the last Gen", next)
}

// put: a write of a block with the same byte everywhere.
func put(block int, x byte) impl.DiskOp { return impl.DiskOp{Block: block, Bytes: full(x)} }

// wrongOps: writes that can't be done.
func wrongOps() []impl.DiskOp {
	return []impl.DiskOp{{}, {Block: 0, Bytes: full(1)[:63]}, {Block: 0, Bytes: make([]byte, 65)}, put(-1, 1), put(258, 1), put(leastInt, 1), put(mostInt, 1)}
}

// P8: Apply: every n, with ops that can't be done at every place.
func TestApplyEach(t *testing.T) {
	sync := impl.DiskOp{Sync: true}
	good := []impl.DiskOp{put(0, 1), put(3, 2), sync, put(3, 3), put(257, 4), put(3, 5), sync, sync, put(1, 6)}
	for _, d := range []impl.Disk{plainBlank(), writes(), writes(3, 257, 3)} {
		for n := -1; n <= len(good)+1; n++ {
			e := impl.Apply(d, good, n)
			if impl.DiskOk(e) != (n >= 0 && n <= len(good)) {
				t.Errorf("n %d: %s", n, shortly(diskTold(e)))
			}
			checkApply(t, "all can be done", d, good, n)
		}
		for at := range len(good) + 1 {
			for _, wrong := range wrongOps() {
				ops := slices.Insert(slices.Clone(good), at, wrong)
				for n := -1; n <= len(ops)+1; n++ {
					e := impl.Apply(d, ops, n)
					if got, want := len(e.Blocks) != 0, n >= 0 && n <= at; got != want || !want && len(e.Waiting) != 0 {
						t.Errorf("%d of them, wrong at %d: %s", n, at, shortly(diskTold(e)))
					}
				}
				wantTold(t, "ahead of a wrong one", diskTold(impl.Apply(d, ops, at)), diskTold(plainApply(d, good, at)))
			}
		}
	}
	for _, n := range []int{leastInt, -1, 1, mostInt} {
		if e := impl.Apply(plainBlank(), nil, n); len(e.Blocks) != 0 {
			t.Errorf("n %d of no ops: %s", n, shortly(diskTold(e)))
		}
	}
	wantTold(t, "no ops", diskTold(impl.Apply(writes(3), nil, 0)), diskTold(writes(3)))
	for told, d := range wrongDisks() {
		for n := range 3 {
			if e := impl.Apply(d, []impl.DiskOp{sync, put(2, 2)}, n); len(e.Blocks) != 0 || len(e.Waiting) != 0 {
				t.Errorf("%s: %s", told, shortly(diskTold(e)))
			}
		}
	}
}

// P8: Apply: a Sync whose other fields are set, right ones and wrong ones, is a Sync.
func TestApplySyncFields(t *testing.T) {
	d := writes(3, 257)
	want := diskTold(plainSync(d))
	for _, op := range append(wrongOps(), put(5, 9)) {
		op.Sync = true
		wantTold(t, fmt.Sprint("Sync with block ", op.Block), diskTold(impl.Apply(d, []impl.DiskOp{op}, 1)), want)
	}
}

// P8: Apply: more writes than may wait, with and without a Sync between, from none that wait and from some.
func TestApplyWaiting(t *testing.T) {
	many := func(count int) []impl.DiskOp { return slices.Repeat([]impl.DiskOp{put(7, 7)}, count) }
	for already, d := range []impl.Disk{writes(), writes(3), writes(3, 4)} {
		for count := 197; count <= 202; count++ {
			ops := many(count)
			if e := impl.Apply(d, ops, count); len(e.Blocks) != 0 != (already+count <= 200) || len(e.Blocks) != 0 && len(e.Waiting) != already+count {
				t.Errorf("%d writes and %d: %d blocks, %d wait", already, count, len(e.Blocks), len(e.Waiting))
			}
			between := slices.Insert(slices.Clone(ops), 100, impl.DiskOp{Sync: true})
			if e := impl.Apply(d, between, count+1); len(e.Blocks) != 258 || len(e.Waiting) != count-100 {
				t.Errorf("%d writes and %d with a Sync: %d blocks, %d wait", already, count, len(e.Blocks), len(e.Waiting))
			}
		}
	}
}

// P8: Apply in two goes is Apply in one; behind all Ops the image is the newest.
func TestApplyInTwo(t *testing.T) {
	d := laid(plainBlank(), 0, 1, counting(10, 1))
	ops := impl.Ops(d, counting(200, 5))
	for n := range len(ops) + 1 {
		e := impl.Apply(d, ops, n)
		for m := range len(ops) - n + 1 {
			wantTold(t, fmt.Sprint(n, " and ", m), diskTold(impl.Apply(e, ops[n:], m)), diskTold(impl.Apply(d, ops, n+m)))
		}
	}
}

// choices: all choices of what is kept of so many writes, or, of many, none, all, all but one, one alone, and drawn ones.
func choices(rng *rand.Rand, count int) [][]bool {
	var all [][]bool
	if count <= 5 {
		for choice := range 1 << count {
			kept := make([]bool, count)
			for i := range kept {
				kept[i] = choice>>i&1 == 1
			}
			all = append(all, kept)
		}
		return all
	}
	every := slices.Repeat([]bool{true}, count)
	all = append(all, nil, every)
	at := rng.Intn(count)
	but, alone := slices.Clone(every), make([]bool, count)
	but[at], alone[at] = false, true
	all = append(all, but, alone)
	for range 6 {
		kept := make([]bool, rng.Intn(count+3))
		for i := range kept {
			kept[i] = rng.Intn(2) == 0
		}
		all = append(all, kept)
	}
	return all
}

// cutting is a laying-down in which the power goes: what was newest ahead of it, and what is newest behind it.
type cutting struct {
	told     string
	old, new impl.KeptImage
}

// behindStep checks the disk behind step n of the ops with every choice of what is kept, and gives those disks: until the head is kept the newest is the old one, then the new one.
func (c cutting) behindStep(t *testing.T, rng *rand.Rand, d impl.Disk, ops []impl.DiskOp, n int) []impl.Disk {
	t.Helper()
	e := impl.Apply(d, ops, n)
	reads := c.old
	if n >= len(ops)-1 {
		reads = c.new
	}
	told := fmt.Sprint(c.told, " behind step ", n)
	wantTold(t, told, keptTold(impl.Newest(e)), keptTold(reads))
	var disks []impl.Disk
	for _, kept := range choices(rng, len(e.Waiting)) {
		want := c.old
		if n == len(ops) || n == len(ops)-1 && len(kept) > 0 && kept[0] {
			want = c.new
		}
		left := impl.Crash(e, kept)
		wantTold(t, fmt.Sprint(told, " kept ", kept), keptTold(impl.Newest(left)), keptTold(want))
		disks = append(disks, left)
	}
	return disks
}

// nextOf: the image behind this one, in the other slot.
func nextOf(old impl.KeptImage, image []byte) impl.KeptImage {
	slot := 0
	if old.Ok && old.Slot == 0 {
		slot = 1
	}
	return impl.KeptImage{Ok: true, Gen: old.Gen + 1, Slot: slot, Bytes: image}
}

// P8: laying down again and again, with the power going behind each step and with every choice, or many, of what is kept; it goes on from one of these disks.
func TestLayingDownCut(t *testing.T) {
	t.Parallel()
	sizes := []int{1, 64, 65, 130, 200, 256, 320, 321, 500}
	for seed := range int64(12) {
		rng := rand.New(rand.NewSource(seed))
		d := impl.Blank()
		for lay := range int64(12) {
			old := plainNewest(d)
			image := counting(sizes[rng.Intn(len(sizes))], byte(rng.Intn(256)))
			if lay == seed {
				image = counting(8192, byte(seed))
			} else if rng.Intn(5) == 0 && old.Ok {
				image = old.Bytes
			}
			c := cutting{told: fmt.Sprint("seed ", seed, " laying down ", lay), old: old, new: nextOf(old, image)}
			ops := impl.Ops(d, image)
			var disks []impl.Disk
			for n := range len(ops) + 1 {
				disks = append(disks, c.behindStep(t, rng, d, ops, n)...)
			}
			d = disks[len(disks)-1]
			if rng.Intn(2) == 0 {
				d = disks[rng.Intn(len(disks))]
			}
		}
	}
}

// memoryOf: all byte slices of a disk.
func memoryOf(d impl.Disk) [][]byte {
	all := slices.Clone(d.Blocks)
	for _, w := range d.Waiting {
		all = append(all, w.Bytes)
	}
	return all
}

func memoryOfOps(ops []impl.DiskOp) [][]byte {
	var all [][]byte
	for _, op := range ops {
		all = append(all, op.Bytes)
	}
	return all
}

// apart: whether no two of these slices share a byte, up to their capacities.
func apart(all ...[]byte) bool {
	met := map[*byte]bool{}
	for _, b := range all {
		b = b[:cap(b)]
		for i := range b {
			if met[&b[i]] {
				return false
			}
			met[&b[i]] = true
		}
	}
	return true
}

// P8, P17: what is given shares no memory with an argument, with a second answer or within itself, and the same arguments have the same answer.
func TestDiskApart(t *testing.T) {
	bases := map[string]impl.Disk{"kept": laid(writes(), 0, 3, counting(150, 1)), "waiting": waits(laid(writes(3, 3, 257), 1, 2, counting(150, 1)), 1, looseHead(4, 64, plainSum(full(4))))}
	for told, d := range bases {
		before := diskTold(d)
		b, image := full(5), counting(130, 3)
		ops := plainOps(laid(plainBlank(), 0, 3, counting(150, 1)), image)
		given := slices.Concat(memoryOf(d), [][]byte{b, image}, memoryOfOps(slices.Clone(ops)))
		opsBefore := opsTold(ops)
		for call, answer := range map[string]func() [][]byte{
			"Blank":     func() [][]byte { return memoryOf(impl.Blank()) },
			"PutBlock":  func() [][]byte { return memoryOf(impl.PutBlock(d, 3, b)) },
			"Sync":      func() [][]byte { return memoryOf(impl.Sync(d)) },
			"Crash":     func() [][]byte { return memoryOf(impl.Crash(d, []bool{true, false, true})) },
			"Apply":     func() [][]byte { return memoryOf(impl.Apply(d, ops, len(ops))) },
			"Apply 0":   func() [][]byte { return memoryOf(impl.Apply(d, ops, 0)) },
			"Apply 2":   func() [][]byte { return memoryOf(impl.Apply(d, ops, 2)) },
			"ReadBlock": func() [][]byte { return [][]byte{impl.ReadBlock(d, 3), impl.ReadBlock(d, 257), impl.ReadBlock(d, 3)} },
			"Newest":    func() [][]byte { return [][]byte{impl.Newest(d).Bytes} },
			"Ops":       func() [][]byte { return memoryOfOps(impl.Ops(d, image)) },
			"HeadBlock": func() [][]byte { return [][]byte{impl.HeadBlock(impl.Head{Ok: true, Gen: 1, Len: 1})} },
		} {
			one, two := answer(), answer()
			if fmt.Sprint(one) != fmt.Sprint(two) {
				t.Errorf("%s: %s: two answers", told, call)
			}
			if !shareNone(given, one, two) {
				t.Errorf("%s: %s: memory is shared", told, call)
			}
			for _, list := range one {
				for i := range list {
					list[i] ^= 255
				}
			}
			if three := answer(); fmt.Sprint(three) != fmt.Sprint(two) {
				t.Errorf("%s: %s: another answer once the first is overwritten", told, call)
			}
			wantTold(t, told+": "+call+": the disk has changed", diskTold(d), before)
			wantTold(t, told+": "+call+": the ops have changed", opsTold(ops), opsBefore)
		}
		if !slices.Equal(b, full(5)) || !slices.Equal(image, counting(130, 3)) {
			t.Errorf("%s: the bytes have changed", told)
		}
	}
}

// shareNone: whether an answer shares nothing within itself, with what was given and with a second answer.
func shareNone(given, one, two [][]byte) bool {
	met := map[*byte]bool{}
	for _, b := range given {
		b = b[:cap(b)]
		for i := range b {
			met[&b[i]] = true
		}
	}
	for _, b := range slices.Concat(one, two) {
		for i := range b {
			if met[&b[i]] {
				return false
			}
		}
	}
	return apart(slices.Concat(one, two)...)
}

// P8, P17: lists of an answer can be appended to without a change in another, and those of kept entries are left as they were.
func TestDiskKeptEntries(t *testing.T) {
	kept := []bool{true, false, true}
	impl.Crash(writes(3, 4, 5), kept)
	if !slices.Equal(kept, []bool{true, false, true}) {
		t.Errorf("the entries have changed: %v", kept)
	}
	d := impl.PutBlock(impl.PutBlock(impl.Blank(), 1, full(1)), 2, full(2))
	e, f := impl.PutBlock(d, 3, full(3)), impl.PutBlock(d, 4, full(4))
	if e.Waiting[2].Block != 3 || f.Waiting[2].Block != 4 || len(d.Waiting) != 2 {
		t.Errorf("two writes behind one disk: %v %v", e.Waiting[2], f.Waiting[2])
	}
}
