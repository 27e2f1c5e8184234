package disk

import (
	"math"
	"math/rand"
	"slices"
	"testing"

	"jetty/api"
)

const yes, no = true, false

// block is a block all bytes of which are told by one.
func block(c byte) api.Block {
	var b api.Block
	for i := range b {
		b[i] = c + byte(i)*byte(i>>8+1)
	}
	return b
}

// made is a new disk.
func made(t *testing.T, blocks int) *Disk {
	t.Helper()
	d, e := New(blocks)
	if e != api.OK || d == nil {
		t.Fatalf("New(%d): %v", blocks, e)
	}
	return d
}

// wants holds an error against what it is to be.
func wants(t *testing.T, what string, e, want api.Errno) {
	t.Helper()
	if e != want {
		t.Errorf("%s: %v, not %v", what, e, want)
	}
}

// has asks of a disk whether a block is some block.
func has(t *testing.T, d *Disk, n int, want api.Block) {
	t.Helper()
	if b, e := d.Read(n); e != api.OK || b != want {
		t.Errorf("Read(%d): %d %d ..., %v, not %d %d ...", n, b[0], b[1], e, want[0], want[1])
	}
}

// writes writes blocks that are told by bytes.
func writes(t *testing.T, d *Disk, n int, all ...byte) {
	t.Helper()
	for _, c := range all {
		wants(t, "Write", d.Write(n, block(c)), api.OK)
	}
}

// booted is a dead disk anew.
func booted(t *testing.T, d *Disk) *Disk {
	t.Helper()
	b, e := d.Boot()
	if e != api.OK || b == nil || b == d {
		t.Fatalf("Boot: %p of %p, %v", b, d, e)
	}
	return b
}

// all are all blocks of a disk that is not dead.
func all(t *testing.T, d *Disk) []api.Block {
	t.Helper()
	var bs []api.Block
	for n := range d.Blocks() {
		b, e := d.Read(n)
		if e != api.OK {
			t.Fatalf("Read(%d): %v", n, e)
		}
		bs = append(bs, b)
	}
	return bs
}

// behind are all blocks behind a failure of a disk; the disk itself does not see it.
func behind(t *testing.T, d *Disk, keep []bool) []api.Block {
	t.Helper()
	c := d.Copy()
	wants(t, "Fail", c.Fail(keep), api.OK)
	return all(t, booted(t, c))
}

// someKeep is a list of yes and no, perhaps longer than what waits, perhaps shorter.
func someKeep(r *rand.Rand, most int) []bool {
	keep := make([]bool, r.Intn(most+1))
	for i := range keep {
		keep[i] = r.Intn(2) == 0
	}
	return keep
}

// P7.1: a disk has MinBlocks to MaxBlocks blocks, on a new one all bytes are 00.
func TestNew(t *testing.T) {
	for _, n := range []int{api.MinBlocks, api.MinBlocks + 1, 777, api.MaxBlocks - 1, api.MaxBlocks} {
		d := made(t, n)
		if d.Blocks() != n || d.Waiting() != 0 || d.Dead() {
			t.Errorf("New(%d): %d, %d, %v", n, d.Blocks(), d.Waiting(), d.Dead())
		}
		for i, b := range all(t, d) {
			if b != (api.Block{}) {
				t.Errorf("New(%d): block %d is not of 00s", n, i)
			}
		}
	}
	for _, n := range []int{math.MinInt, -64, -1, 0, 1, api.MinBlocks - 1, api.MaxBlocks + 1, math.MaxInt} {
		if d, e := New(n); d != nil || e != api.ErrArg {
			t.Errorf("New(%d): %v, %v", n, d, e)
		}
	}
}

// P7.1: what is read is what was written last, whether it waits or not; each write waits, till a flush.
func TestReadWrite(t *testing.T) {
	d := made(t, 64)
	writes(t, d, 1, 'a', 'b')
	writes(t, d, 63, 'z')
	writes(t, d, 0, '0')
	if d.Waiting() != 4 {
		t.Errorf("Waiting: %d", d.Waiting())
	}
	for range 2 {
		has(t, d, 0, block('0'))
		has(t, d, 1, block('b'))
		has(t, d, 2, api.Block{})
		has(t, d, 63, block('z'))
		wants(t, "Flush", d.Flush(), api.OK)
		if d.Waiting() != 0 {
			t.Errorf("Waiting behind a flush: %d", d.Waiting())
		}
	}
	writes(t, d, 1, 'c')
	has(t, d, 1, block('c'))
	wants(t, "Write of 00s", d.Write(63, api.Block{}), api.OK)
	has(t, d, 63, api.Block{})
	if d.Waiting() != 2 {
		t.Errorf("Waiting: %d", d.Waiting())
	}
	wants(t, "Flush", d.Flush(), api.OK)
	has(t, d, 1, block('c'))
	has(t, d, 63, api.Block{})
	has(t, d, 0, block('0'))
}

// P7.1: each block there is can be written, and is another one than all others.
func TestEachBlock(t *testing.T) {
	for _, blocks := range []int{api.MinBlocks, api.MaxBlocks} {
		d := made(t, blocks)
		of := func(n int) api.Block { return api.Block{byte(n), byte(n >> 8), api.BlockSize - 1: 7} }
		for n := range blocks {
			wants(t, "Write", d.Write(n, of(n)), api.OK)
			if n%100 == 99 {
				wants(t, "Flush", d.Flush(), api.OK)
			}
		}
		for n := range blocks {
			has(t, d, n, of(n))
		}
	}
}

// The chapter's table: a block that there is not is ErrArg; what is refused does not wait.
func TestNoSuchBlock(t *testing.T) {
	d := made(t, 64)
	for _, n := range []int{math.MinInt, -64, -1, 64, 65, api.MaxBlocks, 1 << 32, math.MaxInt} {
		if b, e := d.Read(n); b != (api.Block{}) || e != api.ErrArg {
			t.Errorf("Read(%d): %v", n, e)
		}
		wants(t, "Write", d.Write(n, block('x')), api.ErrArg)
	}
	if d.Waiting() != 0 {
		t.Errorf("Waiting: %d", d.Waiting())
	}
	for _, b := range all(t, d) {
		if b != (api.Block{}) {
			t.Error("a write that was refused is read")
		}
	}
}

// P7.2: of the writes that wait those are kept that have a yes, in their order.
func TestFail(t *testing.T) {
	for _, c := range []struct {
		keep     []bool
		one, two byte // what the blocks 1 and 2 are; 0: what they were flushed as
	}{
		{nil, 0, 0},
		{[]bool{}, 0, 0},
		{[]bool{no, no, no}, 0, 0},
		{[]bool{yes}, 'a', 0},
		{[]bool{no, yes}, 0, 'b'},
		{[]bool{no, no, yes}, 'c', 0},
		{[]bool{yes, no, yes}, 'c', 0},
		{[]bool{yes, yes}, 'a', 'b'},
		{[]bool{yes, yes, no}, 'a', 'b'},
		{[]bool{yes, yes, yes}, 'c', 'b'},
		{[]bool{no, no, no, yes, yes}, 0, 0},
		{[]bool{no, yes, yes, yes, no, yes}, 'c', 'b'},
	} {
		d := made(t, 64)
		writes(t, d, 1, 'q')
		wants(t, "Write", d.Write(2, block('r')), api.OK)
		wants(t, "Flush", d.Flush(), api.OK)
		writes(t, d, 1, 'a')
		writes(t, d, 2, 'b')
		writes(t, d, 1, 'c')
		wants(t, "Fail", d.Fail(c.keep), api.OK)
		if !d.Dead() || d.Waiting() != 0 || d.Blocks() != 64 {
			t.Errorf("%v: dead %v, %d wait, %d blocks", c.keep, d.Dead(), d.Waiting(), d.Blocks())
		}
		one, two := block('q'), block('r')
		if c.one != 0 {
			one = block(c.one)
		}
		if c.two != 0 {
			two = block(c.two)
		}
		b := booted(t, d)
		has(t, b, 1, one)
		has(t, b, 2, two)
		has(t, b, 3, api.Block{})
		if b.Waiting() != 0 || b.Dead() || b.Blocks() != 64 || !d.Dead() {
			t.Errorf("%v: %d wait, dead %v, %d blocks", c.keep, b.Waiting(), b.Dead(), b.Blocks())
		}
	}
}

// The chapter's table: a dead disk refuses all but to be booted and copied, whatever it is handed, and changes no more.
func TestDead(t *testing.T) {
	d := made(t, 64)
	writes(t, d, 1, 'a')
	wants(t, "Fail", d.Fail([]bool{yes}), api.OK)
	for _, n := range []int{-1, 0, 1, 64, math.MaxInt} {
		if b, e := d.Read(n); b != (api.Block{}) || e != api.ErrDead {
			t.Errorf("Read(%d): %v", n, e)
		}
		wants(t, "Write", d.Write(n, block('x')), api.ErrDead)
		wants(t, "Cut", d.Cut(n, []bool{yes}), api.ErrDead)
	}
	wants(t, "Flush", d.Flush(), api.ErrDead)
	wants(t, "Fail", d.Fail(nil), api.ErrDead)
	wants(t, "Fail", d.Fail([]bool{yes, yes}), api.ErrDead)
	if !d.Dead() || d.Waiting() != 0 || d.Blocks() != 64 {
		t.Errorf("dead %v, %d wait, %d blocks", d.Dead(), d.Waiting(), d.Blocks())
	}
	b := booted(t, d)
	has(t, b, 1, block('a'))
	has(t, b, 0, api.Block{})
	writes(t, b, 5, 'e')
	wants(t, "a Flush of what was booted", b.Flush(), api.OK)
}

// P7.2: what is booted is another disk each time; a disk that is not dead is not booted.
func TestBoot(t *testing.T) {
	d := made(t, 64)
	if b, e := d.Boot(); b != nil || e != api.ErrState {
		t.Errorf("Boot of a live disk: %v, %v", b, e)
	}
	writes(t, d, 1, 'a')
	wants(t, "Flush", d.Flush(), api.OK)
	wants(t, "Fail", d.Fail(nil), api.OK)
	a, b := booted(t, d), booted(t, d)
	if a == b {
		t.Fatal("booted twice, one disk")
	}
	writes(t, a, 1, 'b')
	wants(t, "Flush", a.Flush(), api.OK)
	has(t, b, 1, block('a'))
	has(t, booted(t, d), 1, block('a'))
	if b, e := a.Boot(); b != nil || e != api.ErrState {
		t.Errorf("Boot of a disk that was booted: %v, %v", b, e)
	}
	wants(t, "Fail", a.Fail(nil), api.OK)
	has(t, booted(t, a), 1, block('b'))
	if !d.Dead() || b.Dead() {
		t.Error("a disk sees another one")
	}
}

// P7.2: at a write the power fails with the write waiting behind the others.
func TestCutAtWrite(t *testing.T) {
	d := made(t, 64)
	writes(t, d, 2, 'c')
	wants(t, "Flush", d.Flush(), api.OK)
	writes(t, d, 2, 'd')
	wants(t, "Cut", d.Cut(1, []bool{no, yes}), api.OK)
	wants(t, "Write", d.Write(3, block('e')), api.ErrDead)
	if !d.Dead() || d.Waiting() != 0 {
		t.Errorf("dead %v, %d wait", d.Dead(), d.Waiting())
	}
	b := booted(t, d)
	has(t, b, 2, block('c'))
	has(t, b, 3, block('e'))
}

// P7.2: at a flush nothing is flushed, what waits is kept by yes and no.
func TestCutAtFlush(t *testing.T) {
	d := made(t, 64)
	wants(t, "Cut", d.Cut(3, []bool{no, yes}), api.OK)
	writes(t, d, 2, 'd')
	writes(t, d, 3, 'e')
	wants(t, "Flush", d.Flush(), api.ErrDead)
	if !d.Dead() || d.Waiting() != 0 {
		t.Errorf("dead %v, %d wait", d.Dead(), d.Waiting())
	}
	b := booted(t, d)
	has(t, b, 2, api.Block{})
	has(t, b, 3, block('e'))
}

// P7.2: writes and flushes that are not refused are counted, and nothing else.
func TestCutCounts(t *testing.T) {
	d := made(t, 64)
	wants(t, "Cut", d.Cut(4, nil), api.OK)
	writes(t, d, 1, 'a')
	wants(t, "Write", d.Write(64, block('x')), api.ErrArg)
	wants(t, "Write", d.Write(-1, block('x')), api.ErrArg)
	d.Read(1)
	d.Read(64)
	d.Waiting()
	d.Blocks()
	d.Boot()
	c := d.Copy()
	for range 5 {
		c.Flush()
	}
	wants(t, "Cut", d.Cut(-1, nil), api.ErrArg)
	wants(t, "Flush", d.Flush(), api.OK)
	wants(t, "Flush of nothing", d.Flush(), api.OK)
	if d.Dead() {
		t.Fatal("dead ahead of the cut")
	}
	wants(t, "Write", d.Write(64, block('x')), api.ErrArg)
	wants(t, "Write", d.Write(1, block('b')), api.ErrDead)
	has(t, booted(t, d), 1, block('a'))
}

// P7.2: a cut is said in the place of one that was; 0 says that there is none, one that is refused leaves it.
func TestCutAgain(t *testing.T) {
	d := made(t, 64)
	wants(t, "Cut", d.Cut(1, []bool{yes}), api.OK)
	wants(t, "Cut", d.Cut(2, []bool{no, yes}), api.OK)
	writes(t, d, 1, 'a')
	for _, n := range []int{-1, -2, math.MinInt} {
		wants(t, "Cut below 0", d.Cut(n, []bool{yes, yes}), api.ErrArg)
	}
	wants(t, "Write", d.Write(2, block('b')), api.ErrDead)
	d = booted(t, d)
	has(t, d, 1, api.Block{})
	has(t, d, 2, block('b'))

	wants(t, "Cut", d.Cut(1, nil), api.OK)
	wants(t, "Cut of none", d.Cut(0, []bool{yes}), api.OK)
	writes(t, d, 1, 'c')
	wants(t, "Flush", d.Flush(), api.OK)
	wants(t, "Cut", d.Cut(math.MaxInt, nil), api.OK)
	for range 100 {
		writes(t, d, 1, 'd')
		wants(t, "Flush", d.Flush(), api.OK)
	}
	wants(t, "Cut", d.Cut(1, []bool{yes}), api.OK)
	wants(t, "Flush", d.Flush(), api.ErrDead)
}

// P7.2: behind a failure no cut is said.
func TestCutIsOver(t *testing.T) {
	for _, fail := range []func(*Disk) api.Errno{
		func(d *Disk) api.Errno { return d.Fail(nil) },
		func(d *Disk) api.Errno { return d.Write(1, block('a')) },
	} {
		d := made(t, 64)
		wants(t, "Cut", d.Cut(1, []bool{yes}), api.OK)
		fail(d)
		if !d.Dead() {
			t.Fatal("the power did not fail")
		}
		b := booted(t, d)
		for range 4 {
			writes(t, b, 1, 'b')
			wants(t, "Flush", b.Flush(), api.OK)
		}
		c := d.Copy()
		wants(t, "Write", c.Write(1, block('c')), api.ErrDead)
		if !c.Dead() {
			t.Error("a copy of a dead disk is not dead")
		}
	}
}

// P7.2, R1: of nil, all calls; ErrNil stands ahead of what else is wrong.
func TestNilDisk(t *testing.T) {
	var d *Disk
	for _, n := range []int{-1, 0, 1, math.MaxInt} {
		if b, e := d.Read(n); b != (api.Block{}) || e != api.ErrNil {
			t.Errorf("Read: %v", e)
		}
		wants(t, "Write", d.Write(n, block('a')), api.ErrNil)
		wants(t, "Cut", d.Cut(n, []bool{yes}), api.ErrNil)
	}
	wants(t, "Flush", d.Flush(), api.ErrNil)
	wants(t, "Fail", d.Fail([]bool{yes}), api.ErrNil)
	if b, e := d.Boot(); b != nil || e != api.ErrNil {
		t.Errorf("Boot: %v, %v", b, e)
	}
	if d.Blocks() != 0 || d.Waiting() != 0 || d.Dead() || d.Copy() != nil {
		t.Errorf("%d, %d, %v, %v", d.Blocks(), d.Waiting(), d.Dead(), d.Copy())
	}
}

// R1: a disk that New did not make does not panic.
func TestNotMade(t *testing.T) {
	was := made(t, 64)
	was.Write(1, block('a'))
	taken := *was
	was.Write(2, block('b'))
	was.Flush()
	for _, d := range []*Disk{{}, &taken} {
		for _, n := range []int{-1, 0, 1, 2} {
			d.Read(n)
			d.Write(n, block('a'))
		}
		d.Flush()
		d.Cut(2, []bool{yes})
		for _, c := range []*Disk{d.Copy(), d} {
			c.Write(0, block('a'))
			c.Fail([]bool{yes, yes})
			b, _ := c.Boot()
			b.Write(0, block('a'))
			b.Flush()
		}
	}
}

// R3: what is handed in is not read beyond its length, not changed and not kept.
func TestHandedIn(t *testing.T) {
	room := []bool{no, yes, yes}
	d := made(t, 64)
	writes(t, d, 1, 'a', 'b', 'c')
	f := d.Copy()
	wants(t, "Fail", f.Fail(room[:1]), api.OK)
	has(t, booted(t, f), 1, api.Block{})

	wants(t, "Cut", d.Cut(1, room[:2]), api.OK)
	copy(room, []bool{yes, no, yes})
	b := block('d')
	wants(t, "Write", d.Write(2, b), api.ErrDead)
	b[0]++
	d = booted(t, d)
	has(t, d, 1, block('b'))
	has(t, d, 2, api.Block{})
	if !slices.Equal(room, []bool{yes, no, yes}) {
		t.Errorf("the list is %v", room)
	}
}

// P7.2, R3: the cut of a copy is its own, too: what is handed to neither is seen by it.
func TestCutOfCopy(t *testing.T) {
	d := made(t, 64)
	writes(t, d, 1, 'a')
	wants(t, "Cut", d.Cut(2, []bool{yes, no}), api.OK)
	c := d.Copy()
	wants(t, "Cut", d.Cut(0, nil), api.OK)
	o := c.Copy()
	wants(t, "Cut", o.Cut(1, []bool{no, yes}), api.OK)
	wants(t, "Write", o.Write(1, block('o')), api.ErrDead)
	writes(t, d, 1, 'b', 'c', 'd')
	wants(t, "Write", c.Write(2, block('e')), api.OK)
	wants(t, "Flush", c.Flush(), api.ErrDead)
	has(t, d, 1, block('d'))
	has(t, booted(t, o), 1, block('o'))
	b := booted(t, c)
	has(t, b, 1, block('a'))
	has(t, b, 2, api.Block{})
}

// P7.6: what is written, flushed, or fails on a disk its copy does not see, nor the other way round, nor a copy of the copy.
func TestCopy(t *testing.T) {
	d := made(t, 64)
	writes(t, d, 1, 'f')
	wants(t, "Flush", d.Flush(), api.OK)
	writes(t, d, 1, 'a', 'b', 'c')
	x, y := d.Copy(), d.Copy()
	z := y.Copy()
	writes(t, d, 2, 'd')
	writes(t, x, 2, 'x')
	writes(t, y, 2, 'y')
	writes(t, z, 2, 'z')
	for d, c := range map[*Disk]byte{d: 'd', x: 'x', y: 'y', z: 'z'} {
		has(t, d, 1, block('c'))
		has(t, d, 2, block(c))
		if got := behind(t, d, []bool{no, no, no, yes}); got[1] != block('f') || got[2] != block(c) {
			t.Errorf("the write of %c is another one", c)
		}
		if got := behind(t, d, []bool{no, yes}); got[1] != block('b') || got[2] != (api.Block{}) {
			t.Errorf("the writes ahead of %c are others", c)
		}
	}
	wants(t, "Flush", x.Flush(), api.OK)
	wants(t, "Fail", y.Fail([]bool{yes}), api.OK)
	if d.Waiting() != 4 || x.Waiting() != 0 || y.Waiting() != 0 || z.Waiting() != 4 {
		t.Errorf("%d, %d, %d, %d wait", d.Waiting(), x.Waiting(), y.Waiting(), z.Waiting())
	}
	if d.Dead() || x.Dead() || !y.Dead() || z.Dead() {
		t.Error("one died for another")
	}
	if got := behind(t, d, nil); got[1] != block('f') || got[2] != (api.Block{}) {
		t.Error("a flush of the copy is one of the disk")
	}
	if got := behind(t, x, nil); got[1] != block('c') || got[2] != block('x') {
		t.Error("a flush of the copy is none")
	}
	has(t, booted(t, y), 1, block('a'))
}

// R2: two new disks do not see one another.
func TestTwoDisks(t *testing.T) {
	a, b := made(t, 64), made(t, 64)
	writes(t, a, 1, 'a')
	wants(t, "Cut", a.Cut(2, nil), api.OK)
	has(t, b, 1, api.Block{})
	writes(t, b, 1, 'b')
	wants(t, "Flush", b.Flush(), api.OK)
	wants(t, "Fail", b.Fail(nil), api.OK)
	has(t, a, 1, block('a'))
	if a.Dead() || a.Waiting() != 1 {
		t.Errorf("dead %v, %d wait", a.Dead(), a.Waiting())
	}
}

// history is a disk with what was done to it: of each block what it was flushed as, and of each write that waits what it is.
type history struct {
	d       *Disk
	flushed map[int]api.Block
	waits   []write
}

// someHistory is a disk to which some writes and flushes were done.
func someHistory(t *testing.T, r *rand.Rand) history {
	t.Helper()
	h := history{made(t, 64), map[int]api.Block{}, nil}
	for range r.Intn(40) {
		if r.Intn(8) == 0 {
			wants(t, "Flush", h.d.Flush(), api.OK)
			for _, w := range h.waits {
				h.flushed[w.at] = w.block
			}
			h.waits = nil
			continue
		}
		w := write{r.Intn(5), block(byte(r.Intn(256)))}
		wants(t, "Write", h.d.Write(w.at, w.block), api.OK)
		h.waits = append(h.waits, w)
	}
	return h
}

// P7.3, P7.4: behind a failure each block is what it was flushed as, or what a write made of it that was kept.
func TestEachByItself(t *testing.T) {
	r := rand.New(rand.NewSource(74))
	for range 400 {
		h := someHistory(t, r)
		if h.d.Waiting() != len(h.waits) {
			t.Fatalf("%d wait, not %d", h.d.Waiting(), len(h.waits))
		}
		for _, keep := range [][]bool{nil, make([]bool, 50), someKeep(r, len(h.waits)+3), someKeep(r, len(h.waits)+3)} {
			for n, b := range behind(t, h.d, keep) {
				want := h.flushed[n]
				for i, w := range h.waits {
					if w.at == n && i < len(keep) && keep[i] {
						want = w.block
					}
				}
				if b != want {
					t.Fatalf("keep %v: block %d", keep, n)
				}
			}
		}
	}
}

// P7.5: a cut comes to what a failure comes to that is told ahead of it, of a write with it waiting.
func TestCutIsFailure(t *testing.T) {
	r := rand.New(rand.NewSource(75))
	for range 300 {
		h := someHistory(t, r)
		keep := someKeep(r, len(h.waits)+3)
		at, n, b := 1+r.Intn(6), r.Intn(5), block(byte(r.Intn(256)))
		cut, told := h.d.Copy(), h.d.Copy()
		wants(t, "Cut", cut.Cut(at, keep), api.OK)
		for range at - 1 {
			if r.Intn(3) == 0 {
				wants(t, "Flush", cut.Flush(), told.Flush())
			} else {
				wants(t, "Write", cut.Write(n, b), told.Write(n, b))
			}
		}
		if cut.Dead() {
			t.Fatal("dead ahead of the cut")
		}
		if r.Intn(2) == 0 {
			wants(t, "Flush", cut.Flush(), api.ErrDead)
		} else {
			wants(t, "Write", cut.Write(n+1, b), api.ErrDead)
			wants(t, "Write", told.Write(n+1, b), api.OK)
		}
		wants(t, "Fail", told.Fail(keep), api.OK)
		if !cut.Dead() || cut.Waiting() != told.Waiting() || !slices.Equal(all(t, booted(t, cut)), all(t, booted(t, told))) {
			t.Fatalf("a cut at %d, keep %v", at, keep)
		}
	}
}

// P7.7: a failure that keeps all comes to a flush, and a failure then; one that keeps none to what was flushed.
func TestAllKept(t *testing.T) {
	r := rand.New(rand.NewSource(77))
	for range 300 {
		h := someHistory(t, r)
		keep := slices.Repeat([]bool{yes}, len(h.waits)+r.Intn(3))
		now := all(t, h.d)
		kept := behind(t, h.d, keep)
		none := behind(t, h.d, make([]bool, len(h.waits)))
		wants(t, "Flush", h.d.Flush(), api.OK)
		flushed := behind(t, h.d, someKeep(r, 9))
		if !slices.Equal(kept, flushed) || !slices.Equal(kept, now) || !slices.Equal(all(t, h.d), now) {
			t.Fatal("all kept is not a flush")
		}
		for n, b := range none {
			if b != h.flushed[n] {
				t.Fatalf("none kept: block %d is not what was flushed", n)
			}
		}
	}
}

// model is a disk as plainly as may be.
type model struct {
	disk  [64]api.Block
	waits []write
	cut   int
	keep  []bool
	dead  bool
}

// read is the block as it was written last.
func (m *model) read(n int) (api.Block, api.Errno) {
	if e := m.may(n); e != api.OK {
		return api.Block{}, e
	}
	b := m.disk[n]
	for _, w := range m.waits {
		if w.at == n {
			b = w.block
		}
	}
	return b, api.OK
}

// may is what a call about a block is refused by.
func (m *model) may(n int) api.Errno {
	switch {
	case m.dead:
		return api.ErrDead
	case n < 0 || n >= len(m.disk):
		return api.ErrArg
	}
	return api.OK
}

// fail lets the power fail.
func (m *model) fail(keep []bool) api.Errno {
	if m.dead {
		return api.ErrDead
	}
	for i, w := range m.waits {
		if i < len(keep) && keep[i] {
			m.disk[w.at] = w.block
		}
	}
	m.waits, m.cut, m.dead = nil, 0, true
	return api.OK
}

// step counts a write or a flush.
func (m *model) step() api.Errno {
	if m.cut == 1 {
		m.fail(m.keep)
		return api.ErrDead
	}
	if m.cut > 0 {
		m.cut--
	}
	return api.OK
}

// write puts a write behind the others.
func (m *model) write(n int, b api.Block) api.Errno {
	if e := m.may(n); e != api.OK {
		return e
	}
	m.waits = append(m.waits, write{n, b})
	return m.step()
}

// flush puts on the disk what waits.
func (m *model) flush() api.Errno {
	if m.dead {
		return api.ErrDead
	}
	if e := m.step(); e != api.OK {
		return e
	}
	for _, w := range m.waits {
		m.disk[w.at] = w.block
	}
	m.waits = nil
	return api.OK
}

// say says a cut.
func (m *model) say(n int, keep []bool) api.Errno {
	switch {
	case m.dead:
		return api.ErrDead
	case n < 0:
		return api.ErrArg
	}
	m.cut, m.keep = n, slices.Clone(keep)
	return api.OK
}

// copied is a model that goes its own way, dead or not.
func (m *model) copied(dead bool) *model {
	c := *m
	c.waits, c.dead = slices.Clone(m.waits), dead
	return &c
}

// pair is a disk, and what it is to be.
type pair struct {
	d *Disk
	m *model
}

// alike tells whether a disk tells what its model does.
func (p pair) alike() bool {
	if p.d.Blocks() != len(p.m.disk) || p.d.Waiting() != len(p.m.waits) || p.d.Dead() != p.m.dead {
		return false
	}
	for n := -1; n < 10; n++ {
		b, e := p.d.Read(n)
		want, f := p.m.read(n)
		if b != want || e != f {
			return false
		}
	}
	return true
}

// bits are the bits of a byte as yes and no, as many as another one says.
func bits(b, n byte) []bool {
	keep := make([]bool, n%12)
	for i := range keep {
		keep[i] = b>>(i%8)&1 == 1
	}
	return keep
}

// play does what bytes say, four a step, to some disks and their models, and looks at them all behind each step.
func play(t *testing.T, script []byte) {
	t.Helper()
	ps := []pair{{made(t, 64), &model{}}}
	for ; len(script) >= 4; script = script[4:] {
		kind, x, y, who := script[0]%16, script[1], script[2], int(script[3])
		p := ps[who%len(ps)]
		var e, want api.Errno
		switch {
		case kind < 7:
			n := int(x%9) - 1
			if x > 250 {
				n = 64
			}
			e, want = p.d.Write(n, block(y)), p.m.write(n, block(y))
		case kind < 9:
			e, want = p.d.Flush(), p.m.flush()
		case kind < 11:
			n := int(x%8) - 1
			e, want = p.d.Cut(n, bits(y, x/8)), p.m.say(n, bits(y, x/8))
		case kind < 12:
			e, want = p.d.Fail(bits(x, y)), p.m.fail(bits(x, y))
		case kind < 14 && len(ps) < 6:
			ps = append(ps, pair{p.d.Copy(), p.m.copied(p.m.dead)})
		case !p.m.dead:
			var b *Disk
			if b, e = p.d.Boot(); b != nil {
				t.Fatal("a live disk was booted")
			}
			want = api.ErrState
		default:
			ps[who%len(ps)] = pair{booted(t, p.d), p.m.copied(no)}
			if !p.alike() {
				t.Fatal("a boot changed the dead disk")
			}
		}
		if e != want {
			t.Fatalf("kind %d, %d, %d: %v, not %v", kind, x, y, e, want)
		}
		for i, p := range ps {
			if !p.alike() {
				t.Fatalf("kind %d, %d, %d at %d: disk %d is not as it is to be", kind, x, y, who%len(ps), i)
			}
		}
	}
}

// P7.1, P7.2, P7.6: whatever is done to disks and their copies, each tells what a plain model does.
func TestModel(t *testing.T) {
	r := rand.New(rand.NewSource(7))
	for range 300 {
		script := make([]byte, 4*120)
		r.Read(script)
		play(t, script)
	}
}

// FuzzAnySteps looks for steps by which a disk tells something else than a plain model.
func FuzzAnySteps(f *testing.F) {
	f.Add([]byte{0, 2, 'a', 0, 0, 2, 'b', 0, 11, 1, 1, 0, 15, 0, 0, 0})
	f.Add([]byte{0, 3, 'c', 0, 7, 0, 0, 0, 0, 3, 'd', 0, 9, 18, 2, 0, 12, 0, 0, 0, 0, 4, 'e', 0, 0, 4, 'f', 1, 15, 0, 0, 0})
	f.Fuzz(func(t *testing.T, script []byte) {
		play(t, script[:min(len(script), 4*200)])
	})
}
