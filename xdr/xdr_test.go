package xdr

import (
	"bytes"
	"math"
	"math/rand"
	"strings"
	"testing"
)

// A thing is something that is written, and read again.
type thing struct {
	name  string
	words string // its bytes
	write func(b []byte) []byte
	same  func(r *Reader) bool // reads it, and says whether it is what was written
}

func wordOf(n uint32, words string) thing {
	return thing{"Word", words, func(b []byte) []byte { return Word(b, n) }, func(r *Reader) bool { return r.Word() == n }}
}

func longOf(n uint64, words string) thing {
	return thing{"Long", words, func(b []byte) []byte { return Long(b, n) }, func(r *Reader) bool { return r.Long() == n }}
}

func intOf(n int, words string) thing {
	return thing{"Int", words, func(b []byte) []byte { return Int(b, n) }, func(r *Reader) bool { return r.Int() == n }}
}

func flagOf(is bool, words string) thing {
	return thing{"Flag", words, func(b []byte) []byte { return Flag(b, is) }, func(r *Reader) bool { return r.Flag() == is }}
}

func textOf(s, words string) thing {
	return thing{"Text", words, func(b []byte) []byte { return Text(b, s) }, func(r *Reader) bool { return r.Text(len(s)) == s }}
}

func fixedOf(s, words string) thing {
	return thing{"Fixed", words, func(b []byte) []byte { return Fixed(b, s) }, func(r *Reader) bool { return r.Fixed(len(s)) == s }}
}

func countOf(n int, words string) thing {
	return thing{"Count", words, func(b []byte) []byte { return Word(b, uint32(n)) }, func(r *Reader) bool { return r.Count(n) == n }}
}

func things() []thing {
	long := strings.Repeat("0123456789", 30)
	return []thing{
		wordOf(0, "\x00\x00\x00\x00"),
		wordOf(1, "\x00\x00\x00\x01"),
		wordOf(0x01020304, "\x01\x02\x03\x04"),
		wordOf(0x80000000, "\x80\x00\x00\x00"),
		wordOf(math.MaxUint32, "\xff\xff\xff\xff"),
		longOf(0, "\x00\x00\x00\x00\x00\x00\x00\x00"),
		longOf(1, "\x00\x00\x00\x00\x00\x00\x00\x01"),
		longOf(0x0102030405060708, "\x01\x02\x03\x04\x05\x06\x07\x08"),
		longOf(1<<32, "\x00\x00\x00\x01\x00\x00\x00\x00"),
		longOf(math.MaxUint64, "\xff\xff\xff\xff\xff\xff\xff\xff"),
		intOf(0, "\x00\x00\x00\x00\x00\x00\x00\x00"),
		intOf(258, "\x00\x00\x00\x00\x00\x00\x01\x02"),
		intOf(-1, "\xff\xff\xff\xff\xff\xff\xff\xff"),
		intOf(-2, "\xff\xff\xff\xff\xff\xff\xff\xfe"),
		intOf(math.MinInt, "\x80\x00\x00\x00\x00\x00\x00\x00"),
		intOf(math.MaxInt, "\x7f\xff\xff\xff\xff\xff\xff\xff"),
		flagOf(false, "\x00\x00\x00\x00"),
		flagOf(true, "\x00\x00\x00\x01"),
		textOf("", "\x00\x00\x00\x00"),
		textOf("a", "\x00\x00\x00\x01a\x00\x00\x00"),
		textOf("ab", "\x00\x00\x00\x02ab\x00\x00"),
		textOf("abc", "\x00\x00\x00\x03abc\x00"),
		textOf("abcd", "\x00\x00\x00\x04abcd"),
		textOf("abcde", "\x00\x00\x00\x05abcde\x00\x00\x00"),
		textOf("\x00\xff\x00", "\x00\x00\x00\x03\x00\xff\x00\x00"),
		textOf(long, "\x00\x00\x01\x2c"+long),
		fixedOf("", ""),
		fixedOf("a", "a\x00\x00\x00"),
		fixedOf("ab", "ab\x00\x00"),
		fixedOf("abc", "abc\x00"),
		fixedOf("abcd", "abcd"),
		fixedOf("abcde", "abcde\x00\x00\x00"),
		fixedOf("\x00\xff\x00", "\x00\xff\x00\x00"),
		countOf(0, "\x00\x00\x00\x00"),
		countOf(300, "\x00\x00\x01\x2c"),
		countOf(math.MaxUint32, "\xff\xff\xff\xff"),
	}
}

// P1.1: what is written is b, and behind it the thing as words.
func TestWrittenBehind(t *testing.T) {
	for _, x := range things() {
		for _, ahead := range []string{"", "x", "abcd", "\x00\x00\x00\x00\x00"} {
			if got := string(x.write([]byte(ahead))); got != ahead+x.words {
				t.Errorf("%s behind %q: %q, not %q", x.name, ahead, got, ahead+x.words)
			}
		}
		if got := string(x.write(nil)); got != x.words {
			t.Errorf("%s behind nil: %q, not %q", x.name, got, x.words)
		}
	}
}

// P1.1, R3: what is written is new memory; b, and the room behind it, stay as they are.
func TestWrittenIsNew(t *testing.T) {
	for _, x := range things() {
		room := bytes.Repeat([]byte{0xaa}, 600)
		b := room[:3]
		one, two := x.write(b), x.write(b)
		for i := range room {
			if room[i] != 0xaa {
				t.Fatalf("%s wrote to byte %d of what was handed in", x.name, i)
			}
		}
		want := string(one)
		overwrite(two)
		overwrite(room)
		if string(one) != want {
			t.Errorf("%s: %q shares its memory", x.name, one)
		}
		overwrite(one)
		for i := range room {
			if room[i] != 0x55 {
				t.Fatalf("%s: what was told shares byte %d of what was handed in", x.name, i)
			}
		}
	}
}

// overwrite changes a list and the room behind its end.
func overwrite(b []byte) {
	b = b[:cap(b)]
	for i := range b {
		b[i] = 0x55
	}
}

// A reading is a call of a new reader, what it tells, and how many bytes are left then.
type reading struct {
	name string
	from string
	read func(r *Reader) any
	want any
	left int // -1: the reader is bad
}

func word1(r *Reader) any { return r.Word() }
func long1(r *Reader) any { return r.Long() }
func int1(r *Reader) any  { return r.Int() }
func flag1(r *Reader) any { return r.Flag() }

func text1(most int) func(r *Reader) any  { return func(r *Reader) any { return r.Text(most) } }
func fixed1(n int) func(r *Reader) any    { return func(r *Reader) any { return r.Fixed(n) } }
func count1(most int) func(r *Reader) any { return func(r *Reader) any { return r.Count(most) } }

func readRows(t *testing.T, rows []reading) {
	t.Helper()
	for _, x := range rows {
		r := NewReader([]byte(x.from))
		got := x.read(r)
		left, ok := max(x.left, 0), x.left >= 0
		if got != x.want || r.Left() != left || r.OK() != ok || r.Done() != (x.left == 0) {
			t.Errorf("%s of %q: %v, left %d, OK %v, Done %v; not %v, %d", x.name, x.from, got, r.Left(), r.OK(), r.Done(), x.want, x.left)
		}
	}
}

// P1.2, P1.3: a reader reads the next one; the rest is left.
func TestRead(t *testing.T) {
	readRows(t, []reading{
		{"Word", "\x01\x02\x03\x04", word1, uint32(0x01020304), 0},
		{"Word", "\xff\xff\xff\xffab", word1, uint32(math.MaxUint32), 2},
		{"Long", "\x01\x02\x03\x04\x05\x06\x07\x08", long1, uint64(0x0102030405060708), 0},
		{"Long", "\xff\xff\xff\xff\xff\xff\xff\xffabcd", long1, uint64(math.MaxUint64), 4},
		{"Int", "\xff\xff\xff\xff\xff\xff\xff\xff", int1, -1, 0},
		{"Int", "\x80\x00\x00\x00\x00\x00\x00\x00a", int1, math.MinInt, 1},
		{"Int", "\x00\x00\x00\x00\x00\x00\x00\x09", int1, 9, 0},
		{"Flag", "\x00\x00\x00\x00", flag1, false, 0},
		{"Flag", "\x00\x00\x00\x01a", flag1, true, 1},
		{"Text(5)", "\x00\x00\x00\x05abcde\x00\x00\x00", text1(5), "abcde", 0},
		{"Text(9)", "\x00\x00\x00\x05abcde\x00\x00\x00zz", text1(9), "abcde", 2},
		{"Text(MaxInt)", "\x00\x00\x00\x04abcd", text1(math.MaxInt), "abcd", 0},
		{"Text(0)", "\x00\x00\x00\x00abcd", text1(0), "", 4},
		{"Text(-1)", "\x00\x00\x00\x00", text1(-1), "", 0},
		{"Text(-1)", "\x00\x00\x00\x00abcd", text1(-1), "", 4},
		{"Text(MinInt)", "\x00\x00\x00\x00", text1(math.MinInt), "", 0},
		{"Fixed(0)", "abcd", fixed1(0), "", 4},
		{"Fixed(0)", "", fixed1(0), "", 0},
		{"Fixed(1)", "a\x00\x00\x00", fixed1(1), "a", 0},
		{"Fixed(4)", "abcde", fixed1(4), "abcd", 1},
		{"Fixed(5)", "abcde\x00\x00\x00", fixed1(5), "abcde", 0},
		{"Count(7)", "\x00\x00\x00\x07", count1(7), 7, 0},
		{"Count(8)", "\x00\x00\x00\x07", count1(8), 7, 0},
		{"Count(0)", "\x00\x00\x00\x00a", count1(0), 0, 1},
		{"Count(MaxInt)", "\xff\xff\xff\xff", count1(math.MaxInt), math.MaxUint32, 0},
	})
}

// P1.2: what makes a reader bad.
func TestReadWrong(t *testing.T) {
	readRows(t, []reading{
		{"Flag of 2", "\x00\x00\x00\x02", flag1, false, -1},
		{"Flag of 2 and more", "\x00\x00\x00\x02\x00\x00\x00\x01", flag1, false, -1},
		{"Flag of 256", "\x00\x00\x01\x00", flag1, false, -1},
		{"Flag of 1<<24", "\x01\x00\x00\x00", flag1, false, -1},
		{"Flag of FFFFFFFF", "\xff\xff\xff\xff", flag1, false, -1},
		{"Text above most", "\x00\x00\x00\x04abcd", text1(3), "", -1},
		{"Text above 0", "\x00\x00\x00\x01a\x00\x00\x00", text1(0), "", -1},
		{"Text above -1", "\x00\x00\x00\x01a\x00\x00\x00", text1(-1), "", -1},
		{"Text above MinInt", "\x00\x00\x00\x01a\x00\x00\x00", text1(math.MinInt), "", -1},
		{"Text(-1), short", "\x00\x00\x00", text1(-1), "", -1},
		{"Text of FFFFFFFF", "\xff\xff\xff\xffabcd", text1(math.MaxInt), "", -1},
		{"Text of 80000000", "\x80\x00\x00\x00abcd", text1(math.MaxInt), "", -1},
		{"Text, no 00s", "\x00\x00\x00\x03abc", text1(9), "", -1},
		{"Text, few 00s", "\x00\x00\x00\x01a\x00\x00", text1(9), "", -1},
		{"Text, short", "\x00\x00\x00\x05abcd", text1(9), "", -1},
		{"Text, first 00", "\x00\x00\x00\x01a\x01\x00\x00", text1(9), "", -1},
		{"Text, second 00", "\x00\x00\x00\x01a\x00\x01\x00", text1(9), "", -1},
		{"Text, third 00", "\x00\x00\x00\x01a\x00\x00\x01", text1(9), "", -1},
		{"Fixed, first 00", "a\x80\x00\x00", fixed1(1), "", -1},
		{"Fixed, second 00", "a\x00\x80\x00", fixed1(1), "", -1},
		{"Fixed, third 00", "a\x00\x00\x80", fixed1(1), "", -1},
		{"Fixed, only 00", "abc\xff", fixed1(3), "", -1},
		{"Fixed, short", "abc", fixed1(4), "", -1},
		{"Fixed, no 00s", "abc", fixed1(3), "", -1},
		{"Fixed(-1)", "abcd", fixed1(-1), "", -1},
		{"Fixed(-4)", "abcdefgh", fixed1(-4), "", -1},
		{"Fixed(MinInt)", "abcd", fixed1(math.MinInt), "", -1},
		{"Fixed(MaxInt)", "abcd", fixed1(math.MaxInt), "", -1},
		{"Fixed(MaxInt - 3)", "abcd", fixed1(math.MaxInt - 3), "", -1},
		{"Count above most", "\x00\x00\x00\x08", count1(7), 0, -1},
		{"Count above -1", "\x00\x00\x00\x00", count1(-1), 0, -1},
		{"Count above MinInt", "\x00\x00\x00\x00", count1(math.MinInt), 0, -1},
		{"Count of FFFFFFFF", "\xff\xff\xff\xff", count1(math.MaxUint32 - 1), 0, -1},
	})
}

// P1.2: fewer bytes than are needed, of each thing each number of them.
func TestReadShort(t *testing.T) {
	for _, x := range things() {
		for n := range len(x.words) {
			r := NewReader([]byte(x.words[:n]))
			x.same(r)
			if r.OK() || r.Done() || r.Left() != 0 {
				t.Errorf("%s of the first %d bytes of %q is not bad", x.name, n, x.words)
			}
		}
	}
	short := "\x01\x01\x01\x01\x01\x01\x01"
	for n := range len(short) + 1 {
		if r := NewReader([]byte(short[:n])); r.Long() != 0 || r.OK() {
			t.Errorf("Long of %d bytes", n)
		}
		if r := NewReader([]byte(short[:n])); r.Int() != 0 || r.OK() {
			t.Errorf("Int of %d bytes", n)
		}
	}
}

// P1.2, R3: a reader sees the bytes as they were handed in, no byte behind them, and changes none.
func TestReaderKeepsNothing(t *testing.T) {
	room := Text(Word(nil, 7), "abcde")
	want := string(room)
	r := NewReader(room[:4])
	if r.Left() != 4 || r.Word() != 7 || !r.Done() || r.Word() != 0 || r.OK() {
		t.Error("the reader read beyond the list's length")
	}
	r = NewReader(room)
	r.Word()
	if string(room) != want {
		t.Errorf("the reader changed the bytes: %q", room)
	}
	overwrite(room)
	if s := r.Text(9); s != "abcde" || !r.Done() {
		t.Errorf("the reader kept the bytes that it was handed: %q", s)
	}
}

// R2: readers do not see one another.
func TestReadersApart(t *testing.T) {
	b := Word(Word(nil, 1), 2)
	one, two := NewReader(b), NewReader(b)
	one.Word()
	one.Fixed(-1)
	if two.Left() != 8 || two.Word() != 1 || two.Word() != 2 || !two.Done() {
		t.Error("a reader saw another one")
	}
}

// P1.3: what is left, step by step; of nil and of no bytes.
func TestLeft(t *testing.T) {
	r := NewReader(Text(Flag(Int(Long(Word(nil, 1), 2), 3), true), "abcde"))
	steps := []struct {
		read func()
		left int
	}{
		{func() {}, 36},
		{func() { r.Word() }, 32},
		{func() { r.Long() }, 24},
		{func() { r.Int() }, 16},
		{func() { r.Flag() }, 12},
		{func() { r.Fixed(0) }, 12},
		{func() { r.Count(5) }, 8},
		{func() { r.Fixed(5) }, 0},
	}
	for i, x := range steps {
		x.read()
		if r.Left() != x.left || !r.OK() || r.Done() != (x.left == 0) {
			t.Errorf("step %d: left %d, OK %v, Done %v", i, r.Left(), r.OK(), r.Done())
		}
	}
	for _, none := range [][]byte{nil, {}} {
		if r := NewReader(none); r == nil || r.Left() != 0 || !r.OK() || !r.Done() {
			t.Error("a reader of no bytes is not done")
		}
	}
}

// P1.3, R1: nil reads zeros; a reader that was not made by NewReader does not panic.
func TestNil(t *testing.T) {
	var none *Reader
	allZero(t, "nil", none)
	made := &Reader{}
	made.Word()
	allZero(t, "a reader that nobody made", made)
}

// allZero checks that a reader is bad, or nil: it reads zeros, and nothing is left.
func allZero(t *testing.T, what string, r *Reader) {
	t.Helper()
	for range 2 {
		if n := r.Word(); n != 0 {
			t.Errorf("%s: Word %d", what, n)
		}
		if n := r.Long(); n != 0 {
			t.Errorf("%s: Long %d", what, n)
		}
		if n := r.Int(); n != 0 {
			t.Errorf("%s: Int %d", what, n)
		}
		if r.Flag() {
			t.Errorf("%s: Flag", what)
		}
		for _, n := range []int{math.MinInt, -1, 0, 1, 4, math.MaxInt} {
			if s := r.Text(n); s != "" {
				t.Errorf("%s: Text(%d) %q", what, n, s)
			}
			if s := r.Fixed(n); s != "" {
				t.Errorf("%s: Fixed(%d) %q", what, n, s)
			}
			if c := r.Count(n); c != 0 {
				t.Errorf("%s: Count(%d) %d", what, n, c)
			}
		}
		if r.Left() != 0 || r.OK() || r.Done() {
			t.Errorf("%s: left %d, OK %v, Done %v", what, r.Left(), r.OK(), r.Done())
		}
	}
}

// P1.4: what is written is read as it was; whatever stands behind it is left; all are whole words.
func TestBack(t *testing.T) {
	for _, x := range things() {
		b := x.write(nil)
		if len(b)%4 != 0 {
			t.Errorf("%s: %d bytes are no whole words", x.name, len(b))
		}
		for _, behind := range []string{"", "a", "\x00", "\xff\xff\xff\xff", "\x00\x00\x00\x00\x00"} {
			r := NewReader([]byte(string(b) + behind))
			if !x.same(r) || !r.OK() || r.Left() != len(behind) {
				t.Errorf("%s, and %q behind it, was not read back of %q", x.name, behind, b)
			}
			for i := range len(behind) / 4 {
				if got, want := r.Fixed(4), behind[4*i:4*i+4]; got != want {
					t.Errorf("%s: behind it stands %q, not %q", x.name, got, want)
				}
			}
		}
	}
}

// P1.4: texts of each length are read back.
func TestBackLengths(t *testing.T) {
	for n := range 70 {
		s := strings.Repeat("\xff", n)
		words := (n + 3) / 4 * 4
		if b := Text(nil, s); len(b) != 4+words || NewReader(b).Text(n) != s {
			t.Errorf("Text of %d bytes: %q", n, b)
		}
		if b := Fixed(nil, s); len(b) != words || NewReader(b).Fixed(n) != s {
			t.Errorf("Fixed of %d bytes: %q", n, b)
		}
	}
}

// again reads one thing and writes it again.
type again func(r *Reader) []byte

func agains() map[string]again {
	m := map[string]again{
		"Word": func(r *Reader) []byte { return Word(nil, r.Word()) },
		"Long": func(r *Reader) []byte { return Long(nil, r.Long()) },
		"Int":  func(r *Reader) []byte { return Int(nil, r.Int()) },
		"Flag": func(r *Reader) []byte { return Flag(nil, r.Flag()) },
		"Text": func(r *Reader) []byte { return Text(nil, r.Text(8)) },
	}
	m["Count"] = func(r *Reader) []byte { return Word(nil, uint32(r.Count(math.MaxUint32))) }
	for n := range 6 {
		m["Fixed"+string(rune('0'+n))] = func(r *Reader) []byte { return Fixed(nil, r.Fixed(n)) }
	}
	return m
}

// oneForm checks P1.5 and P1.7 of these bytes.
func oneForm(t *testing.T, s string) {
	t.Helper()
	for name, read := range agains() {
		r := NewReader([]byte(s))
		b := read(r)
		if !r.OK() {
			allZero(t, name, r)
			continue
		}
		if want := s[:len(s)-r.Left()]; string(b) != want {
			t.Fatalf("%s read %q, and wrote %q", name, want, b)
		}
	}
}

// P1.5: what was read of bytes, and is written again, is just these.
func TestOneForm(t *testing.T) {
	const letters = "\x00\x01\x05\xff"
	for n := range 7 {
		s := make([]byte, n)
		for i := range 1 << (2 * n) {
			for at := range n {
				s[at] = letters[i>>(2*at)&3]
			}
			oneForm(t, string(s))
		}
	}
	for i := range 1 << 10 {
		s := []byte("\x00\x00\x00")
		for at := range 5 {
			s = append(s, letters[i>>(2*at)&3])
		}
		oneForm(t, string(s))
	}
}

func FuzzOneForm(f *testing.F) {
	for _, x := range things() {
		f.Add(x.words)
	}
	f.Fuzz(oneForm)
}

// P1.6: what is written one behind the other is read so.
func TestInARow(t *testing.T) {
	all := things()
	random := rand.New(rand.NewSource(1))
	for range 500 {
		var row []thing
		var b []byte
		for range random.Intn(20) {
			x := all[random.Intn(len(all))]
			row, b = append(row, x), x.write(b)
		}
		r := NewReader(b)
		for i, x := range row {
			if !x.same(r) || !r.OK() || r.Done() != (r.Left() == 0) {
				t.Fatalf("thing %d of %d, %s, was not read of %q", i, len(row), x.name, b)
			}
		}
		if !r.Done() {
			t.Fatalf("%d bytes of %q are left", r.Left(), b)
		}
	}
}

// P1.6: a list is a count, and its things.
func TestList(t *testing.T) {
	names := []string{"a", "", "abcde"}
	b := Word(nil, uint32(len(names)))
	for _, s := range names {
		b = Text(b, s)
	}
	r := NewReader(b)
	n := r.Count(3)
	if n != 3 {
		t.Fatalf("Count: %d", n)
	}
	for i := range n {
		if s := r.Text(5); s != names[i] {
			t.Errorf("the text %d: %q", i, s)
		}
	}
	if !r.Done() {
		t.Error("not done")
	}
}

// P1.7: each way to be bad; from then on zeros; what was read stays read.
func TestBad(t *testing.T) {
	ways := map[string]func(r *Reader){
		"Flag":        func(r *Reader) { r.Flag() },
		"Text":        func(r *Reader) { r.Text(0x01010100) },
		"long Text":   func(r *Reader) { r.Text(math.MaxInt) },
		"Text(-1)":    func(r *Reader) { r.Text(-1) },
		"Count":       func(r *Reader) { r.Count(0x01010100) },
		"Count(-1)":   func(r *Reader) { r.Count(-1) },
		"Fixed(-1)":   func(r *Reader) { r.Fixed(-1) },
		"Fixed(3)":    func(r *Reader) { r.Fixed(3) },
		"Fixed(13)":   func(r *Reader) { r.Fixed(13) },
		"last Word":   func(r *Reader) { r.Fixed(12); r.Word() },
		"last Long":   func(r *Reader) { r.Long(); r.Long() },
		"last Int":    func(r *Reader) { r.Int(); r.Int() },
		"last Flag":   func(r *Reader) { r.Fixed(12); r.Flag() },
		"last Text":   func(r *Reader) { r.Fixed(12); r.Text(9) },
		"last Count":  func(r *Reader) { r.Fixed(12); r.Count(9) },
		"first of 12": func(r *Reader) { r.Word(); r.Flag() },
	}
	for name, spoil := range ways {
		b := Text(Word(nil, 7), "abcde")
		b = append(b, strings.Repeat("\x01", 12)...)
		r := NewReader(b)
		n, s := r.Word(), r.Text(5)
		if !r.OK() || r.Left() != 12 {
			t.Fatalf("%s: bad ahead of it", name)
		}
		spoil(r)
		allZero(t, name, r)
		if n != 7 || s != "abcde" {
			t.Errorf("%s: what was read ahead is %d, %q", name, n, s)
		}
	}
}
