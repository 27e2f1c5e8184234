package block

import (
	"bytes"
	"encoding/binary"
	"hash/fnv"
	"math"
	"math/rand"
	"strconv"
	"strings"
	"testing"

	"jetty/api"
	"jetty/digest"
)

// A parts is of what a block is sealed.
type parts struct {
	kind  uint8
	birth int
	body  string
}

// someParts are parts at the edges that the chapter names, and between them.
func someParts() []parts {
	every := make([]byte, 256)
	for i := range every {
		every[i] = byte(i)
	}
	bodies := []string{"", "\x00", "a", "abc", "abc\x00", "\x00abc", "jtty", strings.Repeat("\xFF", 255), string(every), strings.Repeat("x", MaxBody-1), strings.Repeat("y", MaxBody), strings.Repeat("\x00", MaxBody)}
	var all []parts
	for _, body := range bodies {
		for _, kind := range []uint8{0, 1, 2, 127, 128, 255} {
			for _, birth := range []int{0, 1, 7, 255, 256, 65536, 0x01020304, api.MaxCount - 1, api.MaxCount} {
				all = append(all, parts{kind, birth, body})
			}
		}
	}
	return all
}

// sealed is a sealed block.
func sealed(t *testing.T, p parts) api.Block {
	t.Helper()
	b, e := Seal(p.kind, p.birth, p.body)
	if e != api.OK {
		t.Fatalf("Seal(%d, %d, %d bytes): %v", p.kind, p.birth, len(p.body), e)
	}
	return b
}

// to is the pointer to a block.
func to(t *testing.T, at int, b api.Block) api.Ptr {
	t.Helper()
	p, e := To(at, b)
	if e != api.OK {
		t.Fatalf("To(%d): %v", at, e)
	}
	return p
}

// opens holds what Open answers against what it is to be.
func opens(t *testing.T, b api.Block, want parts, we api.Errno) {
	t.Helper()
	kind, birth, body, e := Open(b)
	if (parts{kind, birth, body}) != want || e != we {
		t.Errorf("Open: %d, %d, %q, %v, not %d, %d, %q, %v", kind, birth, body, e, want.kind, want.birth, want.body, we)
	}
}

// checks holds what Check answers against what it is to be.
func checks(t *testing.T, p api.Ptr, b api.Block, wk uint8, wb string, we api.Errno) {
	t.Helper()
	if kind, body, e := Check(p, b); kind != wk || body != wb || e != we {
		t.Errorf("Check(%v): %d, %q, %v, not %d, %q, %v", p, kind, body, e, wk, wb, we)
	}
}

// laid is a block written down part by part, as the chapter tells it.
func laid(p parts) api.Block {
	s := []byte{'j', 't', 't', 'y', p.kind, 0}
	s = binary.BigEndian.AppendUint16(s, uint16(len(p.body)))
	s = binary.BigEndian.AppendUint32(s, uint32(p.birth))
	s = append(s, p.body...)
	return api.Block(append(s, make([]byte, api.BlockSize-len(s))...))
}

// laidPtr are a pointer's bytes, written down number by number.
func laidPtr(p api.Ptr) string {
	s := binary.BigEndian.AppendUint32(nil, uint32(p.At))
	s = binary.BigEndian.AppendUint32(s, uint32(p.Birth))
	return string(binary.BigEndian.AppendUint64(s, p.Sum))
}

// fnvOf is a block's sum, by another hand.
func fnvOf(b api.Block) uint64 {
	h := fnv.New64a()
	h.Write(b[:])
	return h.Sum64()
}

// randomBlock is a block that may be anything, but is often nearly a sealed one.
func randomBlock(r *rand.Rand) api.Block {
	var b api.Block
	r.Read(b[:])
	if r.Intn(4) == 0 {
		return b
	}
	body := make([]byte, r.Intn(MaxBody+1))
	r.Read(body)
	b = laid(parts{uint8(r.Intn(256)), int(r.Int31()), string(body)})
	for range r.Intn(3) {
		b[r.Intn(20)] = byte(r.Intn(256))
	}
	return b
}

// isSealed says of a block, part by part, whether it is a sealed one.
func isSealed(b api.Block) bool {
	n := int(b[6])<<8 + int(b[7])
	if n > 500 || b[8] > 127 || b[5] != 0 || string(b[:4]) != "jtty" {
		return false
	}
	return strings.Trim(string(b[12+n:]), "\x00") == ""
}

// The chapter's examples.
func TestExamples(t *testing.T) {
	b := sealed(t, parts{2, 7, "abc"})
	if string(b[:15]) != "\x6A\x74\x74\x79\x02\x00\x00\x03\x00\x00\x00\x07\x61\x62\x63" || strings.Trim(string(b[15:]), "\x00") != "" || len(b[15:]) != 497 {
		t.Errorf("%X", b)
	}
	if MaxBody != 500 {
		t.Error(MaxBody)
	}
	opens(t, api.Block{}, parts{}, api.ErrForm)
	checks(t, api.Ptr{}, b, 0, "", api.ErrSum)
}

// P8.1, P8.3, P8.5: a sealed block lies as it is told, and is opened as what it was sealed of.
func TestSealOpen(t *testing.T) {
	for _, p := range someParts() {
		b := sealed(t, p)
		if b != laid(p) {
			t.Errorf("Seal(%d, %d, %d bytes) lies so: %X", p.kind, p.birth, len(p.body), b)
		}
		opens(t, b, p, api.OK)
	}
}

// P8.1: each length of a body, and each kind.
func TestEachLengthAndKind(t *testing.T) {
	body := strings.Repeat("body.", MaxBody/5)
	for n := range MaxBody + 1 {
		p := parts{uint8(n), n * 4000000, body[:n]}
		b := sealed(t, p)
		if b != laid(p) {
			t.Errorf("of %d bytes it lies so: %X", n, b)
		}
		opens(t, b, p, api.OK)
		checks(t, to(t, n+1, b), b, p.kind, p.body, api.OK)
	}
}

// P8.1: what is not sealed, and by which error; the birth is looked at ahead of the body.
func TestSealWrong(t *testing.T) {
	long := strings.Repeat("x", MaxBody+1)
	for _, c := range []struct {
		birth int
		body  string
		want  api.Errno
	}{
		{-1, "", api.ErrArg},
		{math.MinInt, "abc", api.ErrArg},
		{math.MinInt32, "abc", api.ErrArg},
		{api.MaxCount + 1, "", api.ErrArg},
		{1<<32 - 1, "", api.ErrArg},
		{1 << 32, "", api.ErrArg},
		{1<<32 + 7, "", api.ErrArg},
		{math.MaxInt, "abc", api.ErrArg},
		{-1, long, api.ErrArg},
		{api.MaxCount + 1, long, api.ErrArg},
		{0, long, api.ErrTooLarge},
		{api.MaxCount, long, api.ErrTooLarge},
		{7, strings.Repeat("x", api.BlockSize), api.ErrTooLarge},
		{7, strings.Repeat("\x00", 1<<16), api.ErrTooLarge},
		{7, strings.Repeat("x", 1<<16+3), api.ErrTooLarge},
	} {
		if b, e := Seal(2, c.birth, c.body); b != (api.Block{}) || e != c.want {
			t.Errorf("Seal(2, %d, %d bytes): %v, not %v; %X", c.birth, len(c.body), e, c.want, b)
		}
	}
}

// P8.1: what is no sealed block is not opened: another mark, another nought, too great a length or birth, and anything but 00s behind the body.
func TestOpenWrong(t *testing.T) {
	for _, p := range []parts{{2, 7, "abc"}, {0, 0, ""}, {255, api.MaxCount, strings.Repeat("z", 499)}, {1, 1, strings.Repeat("z", 500)}} {
		good := sealed(t, p)
		for i := range api.BlockSize {
			for c := range 256 {
				b := good
				b[i] = byte(c)
				_, _, _, e := Open(b)
				if want := isSealed(b); want != (e == api.OK) {
					t.Fatalf("%d bytes sealed, byte %d made %d: %v", len(p.body), i, c, e)
				}
				if e != api.OK {
					opens(t, b, parts{}, api.ErrForm)
				}
			}
		}
	}
}

// P8.1: each length that may be told: up to MaxBody it is a sealed block's, above it is none's.
func TestOpenEachLength(t *testing.T) {
	for n := range 1 << 16 {
		b := sealed(t, parts{3, 9, ""})
		binary.BigEndian.PutUint16(b[6:], uint16(n))
		if n > MaxBody {
			opens(t, b, parts{}, api.ErrForm)
		} else {
			opens(t, b, parts{3, 9, strings.Repeat("\x00", n)}, api.OK)
		}
	}
}

// P8.1: births at the edge, as they lie: up to MaxCount.
func TestOpenBirths(t *testing.T) {
	for _, n := range []uint32{0, 1, math.MaxInt32 - 1, math.MaxInt32} {
		b := sealed(t, parts{3, 9, "x"})
		binary.BigEndian.PutUint32(b[8:], n)
		opens(t, b, parts{3, int(n), "x"}, api.OK)
	}
	for _, n := range []uint32{1 << 31, 1<<31 + 1, 1<<31 + 9, math.MaxUint32 - 1, math.MaxUint32} {
		b := sealed(t, parts{3, 9, "x"})
		binary.BigEndian.PutUint32(b[8:], n)
		opens(t, b, parts{}, api.ErrForm)
	}
}

// P8.1: a block's sum is that of all its bytes, sealed or not.
func TestSum(t *testing.T) {
	r := rand.New(rand.NewSource(81))
	blocks := []api.Block{{}, {511: 1}, {0: 255}, sealed(t, parts{2, 7, "abc"})}
	for range 200 {
		blocks = append(blocks, randomBlock(r))
	}
	for _, b := range blocks {
		if u := Sum(b); u != fnvOf(b) || u != digest.Sum(string(b[:])) {
			t.Errorf("Sum: %x, not %x, of %X", u, fnvOf(b), b)
		}
	}
}

// P8.1: the pointer to a sealed block.
func TestTo(t *testing.T) {
	for _, p := range []parts{{0, 0, ""}, {2, 7, "abc"}, {255, api.MaxCount, strings.Repeat("z", MaxBody)}} {
		b := sealed(t, p)
		for _, at := range []int{1, 2, 255, 256, 4096, api.MaxBlocks - 2, api.MaxBlocks - 1} {
			if q := to(t, at, b); q != (api.Ptr{At: at, Birth: p.birth, Sum: fnvOf(b)}) {
				t.Errorf("To(%d): %v", at, q)
			}
		}
	}
}

// P8.1: of a block that is not sealed there is no pointer, nor at what is no block; what Open answers stands ahead.
func TestToWrong(t *testing.T) {
	good := sealed(t, parts{2, 7, "abc"})
	bad := good
	bad[15] = 1
	for _, at := range []int{math.MinInt, -api.MaxBlocks, -1, 0, api.MaxBlocks, api.MaxBlocks + 1, 1 << 16, 1 << 32, 1<<32 + 1, math.MaxInt} {
		if p, e := To(at, good); p != (api.Ptr{}) || e != api.ErrArg {
			t.Errorf("To(%d): %v, %v", at, p, e)
		}
	}
	for _, at := range []int{-1, 0, 1, 9, api.MaxBlocks - 1, api.MaxBlocks} {
		for _, b := range []api.Block{bad, {}} {
			if p, e := To(at, b); p != (api.Ptr{}) || e != api.ErrForm {
				t.Errorf("To(%d) of no sealed block: %v, %v", at, p, e)
			}
		}
	}
}

// P8.1, P8.3: what a pointer points to is told; wherever it lies.
func TestCheck(t *testing.T) {
	for i, p := range someParts() {
		b := sealed(t, p)
		checks(t, to(t, i%(api.MaxBlocks-1)+1, b), b, p.kind, p.body, api.OK)
	}
}

// P8.1: what is not what a pointer points to; in the row of the errors.
func TestCheckWrong(t *testing.T) {
	b := sealed(t, parts{2, 7, "abc"})
	p := to(t, 9, b)
	bad := b
	bad[5] = 1
	for _, c := range []struct {
		what string
		p    api.Ptr
		b    api.Block
		want api.Errno
	}{
		{"to none", api.Ptr{}, b, api.ErrSum},
		{"to none, and no sealed block", api.Ptr{}, api.Block{}, api.ErrSum},
		{"to none, with the sum and the birth", api.Ptr{Birth: 7, Sum: p.Sum}, b, api.ErrSum},
		{"to none, with the sum of no sealed block", api.Ptr{Birth: 7, Sum: fnvOf(bad)}, bad, api.ErrSum},
		{"another sum by one", api.Ptr{At: 9, Birth: 7, Sum: p.Sum + 1}, b, api.ErrSum},
		{"another sum by its first bit", api.Ptr{At: 9, Birth: 7, Sum: p.Sum ^ 1<<63}, b, api.ErrSum},
		{"another sum by the 32nd bit", api.Ptr{At: 9, Birth: 7, Sum: p.Sum ^ 1<<32}, b, api.ErrSum},
		{"sum 0", api.Ptr{At: 9, Birth: 7}, b, api.ErrSum},
		{"another block, no sealed one", p, bad, api.ErrSum},
		{"a block of 00s", p, api.Block{}, api.ErrSum},
		{"no sealed block, of the sum", api.Ptr{At: 9, Birth: 7, Sum: fnvOf(bad)}, bad, api.ErrForm},
		{"00s, of the sum", api.Ptr{At: 9, Sum: fnvOf(api.Block{})}, api.Block{}, api.ErrForm},
		{"no sealed block, of the sum, another birth", api.Ptr{At: 9, Birth: 8, Sum: fnvOf(bad)}, bad, api.ErrForm},
		{"another birth", api.Ptr{At: 9, Birth: 8, Sum: p.Sum}, b, api.ErrSum},
		{"birth 0", api.Ptr{At: 9, Sum: p.Sum}, b, api.ErrSum},
		{"a birth below 0", api.Ptr{At: 9, Birth: -7, Sum: p.Sum}, b, api.ErrSum},
		{"a birth past MaxCount", api.Ptr{At: 9, Birth: 7 + 1<<32, Sum: p.Sum}, b, api.ErrSum},
	} {
		if kind, body, e := Check(c.p, c.b); kind != 0 || body != "" || e != c.want {
			t.Errorf("%s: %d, %q, %v, not %v", c.what, kind, body, e, c.want)
		}
	}
	// Of a pointer that is not to none its place is not asked: what lies there was handed in.
	for _, at := range []int{-1, 1, 8, api.MaxBlocks - 1, api.MaxBlocks, math.MinInt, math.MaxInt} {
		checks(t, api.Ptr{At: at, Birth: 7, Sum: p.Sum}, b, 2, "abc", api.OK)
	}
}

// P8.4: a block that differs from a sealed one in one byte, whichever, is not what its pointer points to.
func TestAnotherBlock(t *testing.T) {
	for _, p := range []parts{{0, 0, ""}, {2, 7, "abc"}, {9, 1 << 30, strings.Repeat("body!", 100)}} {
		good := sealed(t, p)
		at := to(t, 5, good)
		for i := range api.BlockSize {
			for c := 1; c < 256; c++ {
				b := good
				b[i] ^= byte(c)
				if kind, body, e := Check(at, b); kind != 0 || body != "" || e != api.ErrSum {
					t.Fatalf("byte %d by %d: %d, %q, %v", i, c, kind, body, e)
				}
			}
		}
		checks(t, at, good, p.kind, p.body, api.OK)
	}
}

// somePtrs are pointers that may be, at the edges and between them.
func somePtrs() []api.Ptr {
	all := []api.Ptr{{}}
	for _, at := range []int{1, 2, 255, 256, 4096, api.MaxBlocks - 1} {
		for _, birth := range []int{0, 1, 255, 65536, 0x01020304, api.MaxCount} {
			for _, sum := range []uint64{0, 1, 0x0102030405060708, 1 << 63, math.MaxUint64} {
				all = append(all, api.Ptr{At: at, Birth: birth, Sum: sum})
			}
		}
	}
	return all
}

// P8.2, P8.3, P8.5: a pointer's bytes lie as they are told, and tell the pointer.
func TestPointerBytes(t *testing.T) {
	for _, p := range somePtrs() {
		s, e := Encode(p)
		if e != api.OK || s != laidPtr(p) || len(s) != 16 {
			t.Errorf("Encode(%v): %X, %v", p, s, e)
		}
		if q, e := Decode(s); q != p || e != api.OK {
			t.Errorf("Decode(%X): %v, %v", s, q, e)
		}
	}
	if s, e := Encode(api.Ptr{At: 9, Birth: 7, Sum: 0xA1A2A3A4A5A6A7A8}); e != api.OK || s != "\x00\x00\x00\x09\x00\x00\x00\x07\xA1\xA2\xA3\xA4\xA5\xA6\xA7\xA8" {
		t.Errorf("%X, %v", s, e)
	}
	if s, e := Encode(api.Ptr{}); e != api.OK || s != strings.Repeat("\x00", 16) {
		t.Errorf("to none: %X, %v", s, e)
	}
}

// wrongPtrs are pointers that may not be.
func wrongPtrs() []api.Ptr {
	return []api.Ptr{
		{Birth: 1},
		{Birth: api.MaxCount},
		{Birth: -1},
		{Sum: 1},
		{Sum: 1 << 63},
		{Birth: 7, Sum: 9},
		{At: -1},
		{At: -1, Birth: 7, Sum: 9},
		{At: math.MinInt},
		{At: api.MaxBlocks},
		{At: api.MaxBlocks, Birth: 7, Sum: 9},
		{At: api.MaxBlocks + 1},
		{At: 1 << 31},
		{At: 1 << 32},
		{At: 1<<32 + 1, Birth: 7, Sum: 9},
		{At: math.MaxInt},
		{At: 1, Birth: -1},
		{At: 1, Birth: math.MinInt},
		{At: 1, Birth: api.MaxCount + 1},
		{At: 1, Birth: 1 << 32},
		{At: 1, Birth: 1<<32 + 1, Sum: 9},
		{At: api.MaxBlocks - 1, Birth: math.MaxInt, Sum: 9},
	}
}

// P8.2: a pointer that may not be has no bytes, and is not read of any.
func TestPointersThatMayNotBe(t *testing.T) {
	for _, p := range wrongPtrs() {
		if s, e := Encode(p); s != "" || e != api.ErrForm {
			t.Errorf("Encode(%v): %X, %v", p, s, e)
		}
		if p.At != int(uint32(p.At)) || p.Birth != int(uint32(p.Birth)) {
			continue // it does not go into 16 bytes
		}
		if q, e := Decode(laidPtr(p)); q != (api.Ptr{}) || e != api.ErrForm {
			t.Errorf("Decode(%X): %v, %v", laidPtr(p), q, e)
		}
	}
}

// P8.2: bytes that are no pointer's: fewer, more, or of numbers that may not be.
func TestDecodeWrong(t *testing.T) {
	good, _ := Encode(api.Ptr{At: 9, Birth: 7, Sum: 5})
	var wrong []string
	for n := range len(good) {
		wrong = append(wrong, good[:n], good[len(good)-n:], strings.Repeat("\x00", n))
	}
	for n := 1; n < 20; n++ {
		wrong = append(wrong, good+strings.Repeat("\x00", n), strings.Repeat("\x00", n)+good, strings.Repeat("\x00", 16+n))
	}
	wrong = append(wrong,
		good+good,
		strings.Repeat("\xFF", 16),
		"\x80\x00\x00\x01"+good[4:],
		"\xFF\xFF\xFF\xFF"+good[4:],
		"\x00\x00\x20\x00"+good[4:],
		"\x00\x01\x00\x01"+good[4:],
		"\x00\x00\x00\x00"+good[4:],
		good[:4]+"\x80\x00\x00\x00"+good[8:],
		good[:4]+"\xFF\xFF\xFF\xFF"+good[8:],
		"\x00\x00\x00\x00\x00\x00\x00\x01\x00\x00\x00\x00\x00\x00\x00\x00",
		"\x00\x00\x00\x00\x00\x00\x00\x00\x00\x00\x00\x00\x00\x00\x00\x01",
		"\x00\x00\x00\x00\x00\x00\x00\x00\x80\x00\x00\x00\x00\x00\x00\x00")
	for _, s := range wrong {
		if p, e := Decode(s); p != (api.Ptr{}) || e != api.ErrForm {
			t.Errorf("Decode(%X): %v, %v", s, p, e)
		}
	}
}

// P8.6: unlike pointers have unlike bytes.
func TestPointersApart(t *testing.T) {
	seen := map[string]api.Ptr{}
	for _, p := range somePtrs() {
		s, _ := Encode(p)
		if q, ok := seen[s]; ok {
			t.Errorf("%v and %v: %X", p, q, s)
		}
		seen[s] = p
	}
}

// P8.6: unlike kinds, births or bodies have unlike blocks; a 00 at a body's end is a part of it.
func TestBlocksApart(t *testing.T) {
	all := someParts()
	for n := range MaxBody + 1 {
		all = append(all, parts{77, 77, strings.Repeat("\x00", n)})
	}
	seen := map[api.Block]parts{}
	for _, p := range all {
		b := sealed(t, p)
		if q, ok := seen[b]; ok {
			t.Errorf("%d %d %q and %d %d %q have one block", p.kind, p.birth, p.body, q.kind, q.birth, q.body)
		}
		seen[b] = p
	}
}

// P8.3: any block that is opened was sealed of that, and any other one is not opened; likewise of any bytes and pointers.
func TestBack(t *testing.T) {
	r := rand.New(rand.NewSource(83))
	opened := 0
	for range 20000 {
		b := randomBlock(r)
		if back(t, b) {
			opened++
		}
		s := make([]byte, 16)
		r.Read(s[r.Intn(16):])
		backPtr(t, string(s))
	}
	if opened < 2000 || opened > 18000 {
		t.Errorf("of 20000 blocks %d are sealed", opened)
	}
}

// back holds what a block is opened as against what is sealed of that; it says whether it was opened.
func back(t *testing.T, b api.Block) bool {
	t.Helper()
	kind, birth, body, e := Open(b)
	if (e == api.OK) != isSealed(b) || e != api.OK && e != api.ErrForm {
		t.Fatalf("Open: %v of %X", e, b)
	}
	p := api.Ptr{At: 1, Birth: birth, Sum: Sum(b)}
	if e != api.OK {
		checks(t, p, b, 0, "", api.ErrForm)
		return false
	}
	if c, e := Seal(kind, birth, body); e != api.OK || c != b {
		t.Fatalf("Seal(%d, %d, %q): %v, %X, not %X", kind, birth, body, e, c, b)
	}
	if q := to(t, 1, b); q != p {
		t.Fatalf("To: %v, not %v", q, p)
	}
	checks(t, p, b, kind, body, api.OK)
	return true
}

// backPtr holds the pointer of bytes against the bytes of that pointer.
func backPtr(t *testing.T, s string) {
	t.Helper()
	p, e := Decode(s)
	if e != api.OK {
		if e != api.ErrForm || p != (api.Ptr{}) {
			t.Fatalf("Decode(%X): %v, %v", s, p, e)
		}
		return
	}
	if u, e := Encode(p); e != api.OK || u != s {
		t.Fatalf("Encode(%v): %X, %v, not %X", p, u, e, s)
	}
}

// R2: the same call answers the same, and what a caller does to its blocks is not seen.
func TestBlocksAreValues(t *testing.T) {
	body := []byte("abc")
	b := sealed(t, parts{2, 7, string(body)})
	c := b
	c[12] = 'x'
	opens(t, b, parts{2, 7, "abc"}, api.OK)
	opens(t, c, parts{2, 7, "xbc"}, api.OK)
	if sealed(t, parts{2, 7, string(bytes.Clone(body))}) != b {
		t.Error("sealed twice, it is another block")
	}
	if Sum(b) == Sum(c) {
		t.Error("one sum of two blocks " + strconv.FormatUint(Sum(b), 16))
	}
}

// P8.3: of any bytes: opened just if they are sealed, and sealed back as they were.
func FuzzBack(f *testing.F) {
	b, _ := Seal(2, 7, "abc")
	f.Add(string(b[:20]), 0)
	f.Add(strings.Repeat("\xFF", 16), 511)
	f.Add("\x00\x00\x00\x09\x00\x00\x00\x07\x01\x02\x03\x04\x05\x06\x07\x08", 12)
	f.Fuzz(func(t *testing.T, s string, at int) {
		var b api.Block
		copy(b[:], s)
		back(t, b)
		copy(b[:], "jtty")
		back(t, b)
		if at >= 0 && at < api.BlockSize {
			b[at] ^= 1
			back(t, b)
		}
		backPtr(t, s)
		of := parts{byte(at), at, s}
		c, e := Seal(of.kind, of.birth, of.body)
		if (e == api.OK) != (at >= 0 && at <= api.MaxCount && len(s) <= MaxBody) {
			t.Fatalf("Seal(%d, %d, %q): %v", byte(at), at, s, e)
		}
		if e == api.OK {
			opens(t, c, of, api.OK)
		}
	})
}
