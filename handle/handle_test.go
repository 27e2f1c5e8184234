package handle

import (
	"cmp"
	"hash/fnv"
	"math"
	"math/rand"
	"slices"
	"strings"
	"testing"

	"jetty/api"
)

const most = api.MaxCount

// sealed are the bytes of four numbers and their sum, made without this package.
func sealed(l ...uint32) string {
	var b strings.Builder
	for _, n := range l {
		for _, up := range []int{24, 16, 8, 0} {
			b.WriteByte(byte(n >> up))
		}
	}
	f := fnv.New64a()
	f.Write([]byte(b.String()))
	return b.String() + string(f.Sum(nil))
}

// P4.1: the names of what has one.
func TestNamed(t *testing.T) {
	if SnapIno != 1<<31-1 || Size != 24 {
		t.Errorf("SnapIno %d, Size %d", SnapIno, Size)
	}
	if h := SnapDir(); h != (api.Handle{Snap: 0, Ino: 1<<31 - 1, Gen: 0}) || !May(h) {
		t.Errorf("SnapDir() = %v", h)
	}
	for _, snap := range []int{0, 1, 6, 7, most} {
		if h := Root(snap); h != (api.Handle{Snap: snap, Ino: 1, Gen: 0}) || !May(h) {
			t.Errorf("Root(%d) = %v", snap, h)
		}
	}
	for _, snap := range []int{-1, most + 1, math.MinInt, math.MaxInt} {
		if h := Root(snap); h != (api.Handle{Snap: snap, Ino: 1, Gen: 0}) || May(h) {
			t.Errorf("Root(%d) = %v", snap, h)
		}
	}
}

// P4.1: the bytes, the greatest first, with the sum behind them; back they are the handle.
func TestEncode(t *testing.T) {
	for _, c := range []struct {
		h    api.Handle
		want string
	}{
		{Root(0), "\x00\x00\x00\x01\x00\x00\x00\x00\x00\x00\x00\x01\x00\x00\x00\x00\x04\xdd\xa8\x69\x91\xe4\x7a\x05"},
		{api.Handle{Snap: 2, Ino: 77, Gen: 5}, "\x00\x00\x00\x01\x00\x00\x00\x02\x00\x00\x00\x4d\x00\x00\x00\x05\xe5\x0b\xc2\xb9\x0a\x11\xa3\xc4"},
		{api.Handle{Snap: 0x01020304, Ino: 0x05060708, Gen: 0x090a0b0c}, "\x00\x00\x00\x01\x01\x02\x03\x04\x05\x06\x07\x08\x09\x0a\x0b\x0c\x58\x32\x86\xde\x31\x81\xff\x36"},
		{api.Handle{Snap: most, Ino: most, Gen: most}, "\x00\x00\x00\x01\x7f\xff\xff\xff\x7f\xff\xff\xff\x7f\xff\xff\xff\x5a\x48\x00\x35\x69\xc8\x65\x76"},
		{SnapDir(), "\x00\x00\x00\x01\x00\x00\x00\x00\x7f\xff\xff\xff\x00\x00\x00\x00\x73\x98\x36\x5e\x43\x0a\x5f\x3e"},
		{Root(6), sealed(1, 6, 1, 0)},
		{api.Handle{Snap: most, Ino: 1}, sealed(1, most, 1, 0)},
		{api.Handle{Snap: 1, Ino: SnapIno}, sealed(1, 1, most, 0)},
		{api.Handle{Ino: 2, Gen: most}, sealed(1, 0, 2, most)},
		{api.Handle{Snap: 1 << 8, Ino: 1 << 16, Gen: 1 << 24}, sealed(1, 1<<8, 1<<16, 1<<24)},
	} {
		s, e := Encode(c.h)
		if s != c.want || e != api.OK || !May(c.h) {
			t.Errorf("Encode(%v) = %q, %d; want %q", c.h, s, e, c.want)
		}
		if h, e := Decode(c.want); h != c.h || e != api.OK {
			t.Errorf("Decode(%q) = %v, %d; want %v", c.want, h, e, c.h)
		}
	}
}

// P4.1: handles that may not be.
func TestEncodeRefuses(t *testing.T) {
	for _, h := range []api.Handle{
		{},
		{Snap: 1},
		{Gen: 1},
		{Snap: -1, Ino: 1},
		{Snap: most + 1, Ino: 1},
		{Snap: 1 << 32, Ino: 1},
		{Snap: math.MinInt, Ino: 1},
		{Snap: math.MaxInt, Ino: 1},
		{Ino: -1},
		{Ino: most + 1},
		{Ino: 1<<32 + 1},
		{Ino: math.MinInt},
		{Ino: math.MinInt + 1},
		{Ino: math.MaxInt},
		{Ino: 1, Gen: -1},
		{Ino: 1, Gen: most + 1},
		{Ino: 1, Gen: 1 << 32},
		{Ino: 1, Gen: math.MinInt},
		{Ino: 1, Gen: math.MaxInt},
		{Snap: -1, Ino: -1, Gen: -1},
	} {
		if s, e := Encode(h); s != "" || e != api.ErrForm || May(h) {
			t.Errorf("Encode(%v) = %q, %d; May: %v", h, s, e, May(h))
		}
	}
}

// P4.1: no handle's bytes.
func TestDecodeRefuses(t *testing.T) {
	right := sealed(1, 2, 77, 5)
	turned := []byte(right)
	slices.Reverse(turned[16:])
	first := fnv.New64() // not FNV-1a
	first.Write([]byte(right[:16]))
	for _, s := range []string{
		right[:23],
		right[1:],
		right + "\x00",
		"\x00" + right,
		right + right,
		right[:16],
		sealed(1, 2, 77)[:20],
		sealed(1, 2, 77, 5, 0),
		sealed(1, 2, 77) + "\x00\x00\x00\x00",
		strings.Repeat("\x00", 24),
		strings.Repeat("\xff", 24),
		strings.Repeat("x", 1<<16),
		sealed(0, 2, 77, 5),
		sealed(2, 2, 77, 5),
		sealed(1<<24, 2, 77, 5),
		sealed(1<<31|1, 2, 77, 5),
		sealed(math.MaxUint32, 2, 77, 5),
		sealed(1, most+1, 77, 5),
		sealed(1, math.MaxUint32, 77, 5),
		sealed(1, 2, 0, 5),
		sealed(1, 2, most+1, 5),
		sealed(1, 2, math.MaxUint32, 5),
		sealed(1, 2, 77, most+1),
		sealed(1, 2, 77, math.MaxUint32),
		sealed(1, 2, 77, 6)[:16] + right[16:],
		sealed(1, 77, 2, 5)[:16] + right[16:],
		right[:16] + strings.Repeat("\x00", 8),
		right[16:] + right[:16],
		string(turned),
		right[:16] + string(first.Sum(nil)),
	} {
		checkNone(t, s)
	}
	for n := range 24 {
		checkNone(t, right[:n])
	}
}

func checkNone(t *testing.T, s string) {
	t.Helper()
	if h, e := Decode(s); h != (api.Handle{}) || e != api.ErrForm {
		t.Errorf("Decode(%.60q) = %v, %d", s, h, e)
	}
}

// some is a number that may be, often one at an edge.
func some(random *rand.Rand, least int) int {
	edges := []int{least, least + 1, 2, 255, 256, 257, 1 << 16, 1 << 24, most - 1, most}
	if random.Intn(2) == 0 {
		return edges[random.Intn(len(edges))]
	}
	return least + random.Intn(most-least+1)
}

func anyHandle(random *rand.Rand) api.Handle {
	return api.Handle{Snap: some(random, 0), Ino: some(random, 1), Gen: some(random, 0)}
}

// P4.3: there and back.
func TestBack(t *testing.T) {
	random := rand.New(rand.NewSource(43))
	for range 2000 {
		h := anyHandle(random)
		s, e := Encode(h)
		if s != sealed(1, uint32(h.Snap), uint32(h.Ino), uint32(h.Gen)) || e != api.OK {
			t.Fatalf("Encode(%v) = %q, %d", h, s, e)
		}
		if back, e := Decode(s); back != h || e != api.OK {
			t.Errorf("Decode of Encode(%v) = %v, %d", h, back, e)
		}
	}
}

// checkBytes asks for P4.3 of bytes that may be a handle's.
func checkBytes(t *testing.T, s string) {
	t.Helper()
	h, e := Decode(s)
	if e != api.OK {
		checkNone(t, s)
		return
	}
	if back, e := Encode(h); back != s || e != api.OK || !May(h) {
		t.Errorf("Encode of Decode(%q) = %q, %d", s, back, e)
	}
}

func FuzzBack(f *testing.F) {
	f.Add([]byte(sealed(1, 2, 77, 5)))
	f.Fuzz(func(t *testing.T, b []byte) {
		checkBytes(t, string(b))
		// With the right sum the numbers alone decide.
		if len(b) >= 16 {
			f := fnv.New64a()
			f.Write(b[:16])
			checkBytes(t, string(b[:16])+string(f.Sum(nil)))
		}
	})
}

// P4.4: another byte in the place of one.
func TestOneByte(t *testing.T) {
	random := rand.New(rand.NewSource(44))
	handles := []api.Handle{Root(0), SnapDir(), {Snap: 2, Ino: 77, Gen: 5}, {Snap: most, Ino: most, Gen: most}}
	for range 20 {
		handles = append(handles, anyHandle(random))
	}
	for _, h := range handles {
		s, _ := Encode(h)
		for at := range s {
			for more := 1; more < 256; more++ {
				b := []byte(s)
				b[at] ^= byte(more)
				if at < 4 || at >= 16 {
					checkNone(t, string(b))
					continue
				}
				checkBytes(t, string(b))
				if other, e := Decode(string(b)); e == api.OK && other == h {
					t.Errorf("%q and %q are both %v", s, b, h)
				}
			}
		}
	}
}

// P4.2: by Snap, then Ino, then Gen; the lesser numbers do not count where a greater one decides.
func TestLess(t *testing.T) {
	rising := []api.Handle{
		{Snap: 0, Ino: 1, Gen: 0},
		{Snap: 0, Ino: 1, Gen: 1},
		{Snap: 0, Ino: 1, Gen: most},
		{Snap: 0, Ino: 2, Gen: 0},
		{Snap: 0, Ino: 10, Gen: 0},
		{Snap: 0, Ino: 256, Gen: 0},
		{Snap: 0, Ino: most, Gen: 0},
		{Snap: 0, Ino: most, Gen: most},
		{Snap: 1, Ino: 1, Gen: 0},
		{Snap: 1, Ino: 1, Gen: 9},
		{Snap: 1, Ino: 2, Gen: 3},
		{Snap: 2, Ino: 1, Gen: 0},
		{Snap: most, Ino: 1, Gen: 0},
		{Snap: most, Ino: most, Gen: most},
	}
	for i, a := range rising {
		for j, b := range rising {
			if Less(a, b) != (i < j) {
				t.Errorf("Less(%v, %v) = %v", a, b, Less(a, b))
			}
		}
	}
}

// P4.2: Less asks for no more than the numbers; also of handles that may not be.
func TestLessOfAny(t *testing.T) {
	numbers := []int{math.MinInt, -1, 0, 1, most, math.MaxInt}
	var all []api.Handle
	for _, snap := range numbers {
		for _, ino := range numbers {
			for _, gen := range numbers {
				all = append(all, api.Handle{Snap: snap, Ino: ino, Gen: gen})
			}
		}
	}
	for _, a := range all {
		for _, b := range all {
			if want := byNumbers(a, b) < 0; Less(a, b) != want {
				t.Fatalf("Less(%v, %v) = %v", a, b, !want)
			}
		}
	}
}

func byNumbers(a, b api.Handle) int {
	return cmp.Or(cmp.Compare(a.Snap, b.Snap), cmp.Compare(a.Ino, b.Ino), cmp.Compare(a.Gen, b.Gen))
}

// near are handles of which many share numbers.
func near() []api.Handle {
	var l []api.Handle
	for _, snap := range []int{0, 1, 255, 256, most} {
		for _, ino := range []int{1, 2, 255, 256, most} {
			for _, gen := range []int{0, 1, 255, 256, 1 << 16, most} {
				l = append(l, api.Handle{Snap: snap, Ino: ino, Gen: gen})
			}
		}
	}
	return l
}

// P4.5: one of two is ahead just if they are not the same; and it is handed on.
func TestOrder(t *testing.T) {
	all := near()
	for _, a := range all {
		for _, b := range all {
			if (Less(a, b) || Less(b, a)) != (a != b) || Less(a, b) && Less(b, a) {
				t.Fatalf("%v, %v: %v, %v", a, b, Less(a, b), Less(b, a))
			}
		}
	}
	random := rand.New(rand.NewSource(45))
	for range 20000 {
		a, b, c := all[random.Intn(len(all))], all[random.Intn(len(all))], all[random.Intn(len(all))]
		if Less(a, b) && Less(b, c) && !Less(a, c) {
			t.Fatalf("%v, %v, %v", a, b, c)
		}
	}
}

// P4.6: unlike handles have unlike bytes, in the order of the handles by the first 16.
func TestByBytes(t *testing.T) {
	random := rand.New(rand.NewSource(46))
	all := near()
	for range 100 {
		all = append(all, anyHandle(random))
	}
	for _, a := range all {
		first, _ := Encode(a)
		for _, b := range all {
			second, _ := Encode(b)
			if (a == b) != (first == second) {
				t.Fatalf("%v and %v: %q and %q", a, b, first, second)
			}
			if Less(a, b) != (first[:16] < second[:16]) {
				t.Fatalf("Less(%v, %v) = %v; %q, %q", a, b, Less(a, b), first, second)
			}
		}
	}
}
