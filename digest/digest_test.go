package digest

import (
	"bytes"
	"encoding/binary"
	"fmt"
	"hash/fnv"
	"math/rand"
	"slices"
	"strings"
	"testing"

	"jetty/api"
)

// summed is the sum of bytes, made without this package.
func summed(s string) uint64 {
	f := fnv.New64a()
	f.Write([]byte(s))
	return f.Sum64()
}

// summedParts is the sum of parts, made without this package.
func summedParts(parts []string) uint64 {
	f := fnv.New64a()
	for _, p := range parts {
		binary.Write(f, binary.BigEndian, uint64(len(p)))
		f.Write([]byte(p))
	}
	return f.Sum64()
}

// someBytes are n bytes out of r.
func someBytes(r *rand.Rand, n int) []byte {
	b := make([]byte, n)
	r.Read(b)
	return b
}

// hashOf is a hash to which s was written at once.
func hashOf(s string) *Hash {
	h := New()
	h.Write([]byte(s))
	return h
}

// alike are pairs of texts that have one sum.
var alike = [][2]string{
	{"8yn0iYCKYHlIj4-BwPqk", "GReLUrM4wMqfg9yzV3KQ"},
	{"gMPflVXtwGDXbIhP73TX", "LtHf1prlU1bCeYZEdqWf"},
}

// P6.1: the sum of bytes, any byte and any length.
func TestSum(t *testing.T) {
	for _, c := range []struct {
		s    string
		want uint64
	}{
		{"", 0xcbf29ce484222325},
		{"", 14695981039346656037},
		{"a", 0xaf63dc4c8601ec8c},
		{"foobar", 0x85944171f73967e8},
		{"\x00", 0xaf63bd4c8601b7df},
		{"\xff", 0xaf64724c8602eb6e},
	} {
		if got := Sum(c.s); got != c.want {
			t.Errorf("Sum(%q) = %x, not %x", c.s, got, c.want)
		}
	}
	r := rand.New(rand.NewSource(6))
	for n := range 700 {
		if s := string(someBytes(r, n)); Sum(s) != summed(s) {
			t.Errorf("Sum of %d bytes: %x, not %x", n, Sum(s), summed(s))
		}
	}
	for b := range 256 {
		if s := string([]byte{byte(b)}); Sum(s) != summed(s) {
			t.Errorf("Sum(%q) = %x", s, Sum(s))
		}
	}
}

// P6.1: the sum of parts: each behind the eight bytes of its length, the greatest first.
func TestOf(t *testing.T) {
	for _, none := range [][]string{nil, {}} {
		if got := Of(none); got != Sum("") {
			t.Errorf("Of(none) = %x", got)
		}
	}
	for _, c := range []struct {
		parts []string
		bytes string
	}{
		{[]string{""}, "\x00\x00\x00\x00\x00\x00\x00\x00"},
		{[]string{"", ""}, strings.Repeat("\x00", 16)},
		{[]string{"a"}, "\x00\x00\x00\x00\x00\x00\x00\x01a"},
		{[]string{"a", "bc"}, "\x00\x00\x00\x00\x00\x00\x00\x01a\x00\x00\x00\x00\x00\x00\x00\x02bc"},
		{[]string{"bc", "", "a"}, "\x00\x00\x00\x00\x00\x00\x00\x02bc\x00\x00\x00\x00\x00\x00\x00\x00\x00\x00\x00\x00\x00\x00\x00\x01a"},
		{[]string{strings.Repeat("x", 258)}, "\x00\x00\x00\x00\x00\x00\x01\x02" + strings.Repeat("x", 258)},
		{[]string{strings.Repeat("x", 0x010203)}, "\x00\x00\x00\x00\x00\x01\x02\x03" + strings.Repeat("x", 0x010203)},
		{[]string{strings.Repeat("x", 0x01020304)}, "\x00\x00\x00\x00\x01\x02\x03\x04" + strings.Repeat("x", 0x01020304)},
	} {
		if got := Of(c.parts); got != summed(c.bytes) {
			t.Errorf("Of of %d parts: %x, not %x", len(c.parts), got, summed(c.bytes))
		}
	}
}

// P6.1: parts that hold the same bytes, cut otherwise or in another row, are other parts.
func TestOfCuts(t *testing.T) {
	seen := map[uint64][]string{}
	for _, parts := range [][]string{
		nil, {""}, {"", ""}, {"abc"}, {"ab", "c"}, {"a", "bc"}, {"a", "b", "c"}, {"c", "b", "a"},
		{"", "abc"}, {"abc", ""}, {"bc", "a"}, {"\x00\x00\x00\x00\x00\x00\x00\x00"},
	} {
		u := Of(parts)
		if other, ok := seen[u]; ok {
			t.Errorf("Of(%q) = Of(%q)", parts, other)
		}
		seen[u] = parts
	}
	r := rand.New(rand.NewSource(61))
	for range 500 {
		parts := make([]string, r.Intn(6))
		for i := range parts {
			parts[i] = string(someBytes(r, r.Intn(300)))
		}
		if Of(parts) != summedParts(parts) {
			t.Errorf("Of(%q) = %x", parts, Of(parts))
		}
	}
}

// P6.1: a sum's text has 16 digits, the greatest first; it is read as that sum.
func TestText(t *testing.T) {
	for u, want := range map[uint64]string{
		0:                    "0000000000000000",
		1:                    "0000000000000001",
		10:                   "000000000000000a",
		16:                   "0000000000000010",
		0x0123456789abcdef:   "0123456789abcdef",
		0xfedcba9876543210:   "fedcba9876543210",
		1 << 63:              "8000000000000000",
		1<<64 - 1:            "ffffffffffffffff",
		14695981039346656037: "cbf29ce484222325",
	} {
		if got := Text(u); got != want {
			t.Errorf("Text(%x) = %s", u, got)
		}
		if got, e := Parse(want); got != u || e != api.OK {
			t.Errorf("Parse(%s) = %x, %v", want, got, e)
		}
	}
}

// P6.1: what is no sum's text is refused, and tells no sum.
func TestParseRefuses(t *testing.T) {
	own := Text(Sum(""))
	wrong := []string{
		"", "1", "12", own[1:], own[:15], own + "0", "0" + own, own + own, " " + own[1:], own[:15] + " ", own + "\n",
		strings.ToUpper(own), "CBF29CE484222325", "cbf29ce48422232A", "0x00000000000000", "0X00000000000000",
		"+000000000000001", "-000000000000001", "0000_0000_0000_0", "000000000000000g", "g000000000000000",
		"000000000000000\x00", "\x00000000000000000", "000000000000000\xff", "00000000000000é", "éééééééé", "éééééééééééééééé",
		"٠٠٠٠٠٠٠٠٠٠٠٠٠٠٠٠", "１２３４５６７８", "00000000000000000", strings.Repeat("0", 1000),
	}
	for i := range len(own) {
		for b := range 256 {
			s := own[:i] + string([]byte{byte(b)}) + own[i+1:]
			if may := strings.Contains("0123456789abcdef", s[i:i+1]); !may {
				wrong = append(wrong, s)
			} else if u, e := Parse(s); e != api.OK || fmt.Sprintf("%016x", u) != s {
				t.Errorf("Parse(%q) = %x, %v", s, u, e)
			}
		}
	}
	for _, s := range wrong {
		if u, e := Parse(s); u != 0 || e != api.ErrForm {
			t.Errorf("Parse(%q) = %x, %v", s, u, e)
		}
	}
}

// P6.2: a hash has the sum of all that was written so far; asking changes nothing.
func TestHash(t *testing.T) {
	h := New()
	all := ""
	for _, w := range []string{"", "a", "", "foo", "\x00", "bar\xff", strings.Repeat("x", 1000), ""} {
		h.Write([]byte(w))
		all += w
		for range 2 {
			if h.Sum() != summed(all) {
				t.Errorf("behind %q: %x, not %x", all, h.Sum(), summed(all))
			}
		}
	}
	h.Write(nil)
	if h.Sum() != summed(all) {
		t.Error("writing nil is heard")
	}
	if New().Sum() != 14695981039346656037 {
		t.Error("New has bytes")
	}
}

// P6.2: hashes do not see one another; a copy goes its own way, and so do copies of copies.
func TestCopy(t *testing.T) {
	a, other := hashOf("foo"), New()
	b := a.Copy()
	c := b.Copy()
	a.Write([]byte("bar"))
	b.Write([]byte("t"))
	d := a.Copy()
	c.Write([]byte("l"))
	a.Write([]byte("!"))
	for _, x := range []struct {
		h    *Hash
		want string
	}{{a, "foobar!"}, {b, "foot"}, {c, "fool"}, {d, "foobar"}, {other, ""}, {New(), ""}} {
		if x.h.Sum() != Sum(x.want) {
			t.Errorf("%q: %x", x.want, x.h.Sum())
		}
	}
}

// P6.2, R1: a nil hash has no bytes, and stays so; one that New did not make does not panic.
func TestNilHash(t *testing.T) {
	var h *Hash
	if h.Sum() != Sum("") {
		t.Errorf("of nil: %x", h.Sum())
	}
	h.Write(nil)
	h.Write([]byte("abc"))
	if h.Sum() != Sum("") || h.Copy() != nil {
		t.Errorf("of nil: %x, %v", h.Sum(), h.Copy())
	}
	made := &Hash{}
	made.Write([]byte("abc"))
	made.Copy().Sum()
}

// R3: what is handed in is not read beyond its length, not changed and not kept.
func TestHandedIn(t *testing.T) {
	room := []byte("abcdefgh")
	h := New()
	h.Write(room[2:4])
	if string(room) != "abcdefgh" {
		t.Errorf("Write changed %q", room)
	}
	copy(room, "xxxxxxxx")
	if h.Sum() != Sum("cd") {
		t.Errorf("Write of cd: %x", h.Sum())
	}
	parts := []string{"a", "b", "c", "d"}
	u := Of(parts[1:3])
	if u != summedParts([]string{"b", "c"}) || !slices.Equal(parts, []string{"a", "b", "c", "d"}) {
		t.Errorf("Of(b, c) = %x, of %q", u, parts)
	}
}

// P6.3: however bytes are cut into writes, the sum is that of all.
func TestInParts(t *testing.T) {
	s := "\x00foobar\xff"
	for cuts := range 1 << (len(s) - 1) {
		h, from := New(), 0
		for i := range len(s) {
			if i == len(s)-1 || cuts>>i&1 == 1 {
				h.Write([]byte(s[from : i+1]))
				from = i + 1
			}
		}
		if h.Sum() != Sum(s) {
			t.Errorf("cut by %b: %x, not %x", cuts, h.Sum(), Sum(s))
		}
	}
	r := rand.New(rand.NewSource(63))
	for range 300 {
		b := someBytes(r, r.Intn(2000))
		h, left := New(), b
		for len(left) > 0 {
			n := r.Intn(len(left) + 1)
			h.Write(left[:n])
			left = left[n:]
			if r.Intn(4) == 0 {
				h = h.Copy()
			}
		}
		if h.Sum() != Sum(string(b)) || h.Sum() != hashOf(string(b)).Sum() {
			t.Errorf("%d bytes in parts: %x, not %x", len(b), h.Sum(), Sum(string(b)))
		}
	}
}

// P6.4: rows of one length that differ in one byte alone have unlike sums.
func TestByteMore(t *testing.T) {
	r := rand.New(rand.NewSource(64))
	for _, n := range []int{1, 2, 8, 9, 64, 512} {
		row := someBytes(r, n)
		for i := range row {
			own, sums := row[i], map[uint64]int{}
			for b := range 256 {
				row[i] = byte(b)
				u := Sum(string(row))
				if other, ok := sums[u]; ok {
					t.Errorf("%d bytes: %d and %d at %d have one sum", n, other, b, i)
				}
				sums[u] = b
			}
			row[i] = own
		}
	}
}

// P6.5: Parse of Text is the sum; Text of Parse the text.
func TestTexts(t *testing.T) {
	r := rand.New(rand.NewSource(65))
	for i := range 64 {
		for _, u := range []uint64{1 << i, 1<<i - 1, ^(1 << i), r.Uint64(), r.Uint64() >> i} {
			s := Text(u)
			if s != fmt.Sprintf("%016x", u) {
				t.Errorf("Text(%x) = %s", u, s)
			}
			if back, e := Parse(s); back != u || e != api.OK {
				t.Errorf("Parse(%s) = %x, %v", s, back, e)
			}
		}
	}
	for range 1000 {
		b := make([]byte, 16)
		for i := range b {
			b[i] = "0123456789abcdef"[r.Intn(16)]
		}
		if u, e := Parse(string(b)); e != api.OK || Text(u) != string(b) {
			t.Errorf("Text(Parse(%s)) = %s, %v", b, Text(u), e)
		}
	}
}

// P6.6: two texts that have one sum have one sum with any same end behind them; two that have not, have not.
func TestGoingOn(t *testing.T) {
	r := rand.New(rand.NewSource(66))
	for _, p := range alike {
		if p[0] == p[1] || Sum(p[0]) != Sum(p[1]) {
			t.Fatalf("%q and %q are no such pair", p[0], p[1])
		}
		a, b := hashOf(p[0]), hashOf(p[1])
		for n := range 300 {
			end := someBytes(r, n)
			a.Write(end)
			b.Write(end)
			if x, y := Sum(p[0]+string(end)), Sum(p[1]+string(end)); x != y || a.Sum() != b.Sum() {
				t.Errorf("%q and %q, behind them %x: %x, %x", p[0], p[1], end, x, y)
			}
		}
	}
	texts := []string{"", "a", "b", "\x00", "\x00\x00", "foobar", "raboof", alike[0][0], alike[1][0]}
	for range 20 {
		texts = append(texts, string(someBytes(r, 1+r.Intn(40))))
	}
	for n := range 40 {
		end, sums := string(someBytes(r, n)), map[uint64]string{}
		for _, s := range texts {
			u := Sum(s + end)
			if other, ok := sums[u]; ok {
				t.Errorf("%q and %q, behind them %q, have one sum", s, other, end)
			}
			sums[u] = s
		}
	}
}

// FuzzOneSum looks for bytes whose sum hangs on how they are cut, and for texts that Text does not write as Parse read them.
func FuzzOneSum(f *testing.F) {
	f.Add([]byte(""), 0)
	f.Add([]byte("cbf29ce484222325"), 7)
	f.Add([]byte("CBF29CE484222325"), 16)
	f.Fuzz(func(t *testing.T, b []byte, cut int) {
		own := bytes.Clone(b)
		h := New()
		at := min(max(cut, 0), len(b))
		h.Write(b[:at])
		h.Write(b[at:])
		if h.Sum() != summed(string(b)) || Sum(string(b)) != h.Sum() || !bytes.Equal(b, own) {
			t.Errorf("%q cut at %d: %x", b, at, h.Sum())
		}
		u, e := Parse(string(b))
		if e == api.OK && Text(u) != string(b) || e != api.OK && (e != api.ErrForm || u != 0) {
			t.Errorf("Parse(%q) = %x, %v", b, u, e)
		}
	})
}
