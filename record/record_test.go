package record

import (
	"bytes"
	"math"
	"math/rand"
	"slices"
	"strings"
	"testing"

	"jetty/api"
)

// most is a record of as many bytes as one may have.
var most = strings.Repeat("0123456789abcdef", api.MaxCall/16)

// feed hands a chunk in and asks for the records, the error and what is held behind it.
func feed(t *testing.T, r *Reader, chunk string, want []string, wantErr api.Errno, held int) {
	t.Helper()
	got, err := r.Feed([]byte(chunk))
	if !slices.Equal(got, want) || err != wantErr {
		t.Errorf("Feed(%.40q) = %.80q, %d; want %.80q, %d", chunk, got, err, want, wantErr)
	}
	if r.Held() != held {
		t.Errorf("behind %.40q: Held %d, want %d", chunk, r.Held(), held)
	}
	if r.Shut() != (wantErr == api.ErrTooLarge) {
		t.Errorf("behind %.40q: Shut %v", chunk, r.Shut())
	}
}

func records(s ...string) []string { return s }

// P2.1: what is whole now is told, once, and what came behind it is held.
func TestFeed(t *testing.T) {
	r := New()
	if r.Held() != 0 || r.Shut() {
		t.Error("a new reader holds something, or is shut")
	}
	feed(t, r, "", nil, api.OK, 0)
	feed(t, r, "\x80\x00", nil, api.OK, 2)
	feed(t, r, "", nil, api.OK, 2)
	feed(t, r, "\x00\x03", nil, api.OK, 4)
	feed(t, r, "ab", nil, api.OK, 6)
	feed(t, r, "c", records("abc"), api.OK, 0)
	feed(t, r, "", nil, api.OK, 0)
	feed(t, r, "\x80\x00\x00\x01d\x80\x00\x00\x02ef\x80\x00\x00", records("d", "ef"), api.OK, 3)
	feed(t, r, "\x01g", records("g"), api.OK, 0)
}

// P2.1: a record is the bytes of its fragments, also of those without any.
func TestFeedFragments(t *testing.T) {
	r := New()
	feed(t, r, "\x00\x00\x00\x02ab", nil, api.OK, 6)
	feed(t, r, "\x00\x00\x00\x00", nil, api.OK, 10)
	feed(t, r, "\x00\x00\x00\x01c\x00\x00\x00\x01", nil, api.OK, 19)
	feed(t, r, "d\x80\x00\x00\x00", records("abcd"), api.OK, 0)
	feed(t, r, "\x80\x00\x00\x00", records(""), api.OK, 0)
	feed(t, r, "\x00\x00\x00\x00\x80\x00\x00\x00\x80\x00\x00\x00", records("", ""), api.OK, 0)
	feed(t, r, "\x00\x00\x00\x01e\x80\x00\x00\x01f\x80\x00\x00\x01g", records("ef", "g"), api.OK, 0)
	feed(t, r, "\x80\x00\x00\x04\x80\x00\x00\x00", records("\x80\x00\x00\x00"), api.OK, 0)
	for range 5000 {
		feed(t, r, "\x00\x00\x00\x00", nil, api.OK, r.Held()+4)
	}
	feed(t, r, "\x80\x00\x00\x01h", records("h"), api.OK, 0)
}

// P2.1: MaxCall bytes are allowed, however many fragments have them.
func TestFeedMost(t *testing.T) {
	r := New()
	feed(t, r, "\x80\x00\x10\x00"+most, records(most), api.OK, 0)
	feed(t, r, "\x00\x00\x10\x00"+most, nil, api.OK, 4100)
	feed(t, r, "\x00\x00\x00\x00\x80\x00\x00\x00", records(most), api.OK, 0)
	feed(t, r, "\x00\x00\x0f\xff"+most[:4095], nil, api.OK, 4099)
	feed(t, r, "\x80\x00\x00\x01f", records(most), api.OK, 0)
	feed(t, r, "\x80\x00\x10\x00"+most+"\x80\x00\x10\x00"+most, records(most, most), api.OK, 0)
}

// P2.1: the reader shuts by the four bytes that are too many, and stays so; what was whole ahead of them is told.
func TestFeedShuts(t *testing.T) {
	for _, c := range []struct {
		ahead string
		held  int
		head  string
	}{
		{"", 0, "\x80\x00\x10\x01"},
		{"", 0, "\x00\x00\x10\x01"},
		{"", 0, "\x7f\xff\xff\xff"},
		{"", 0, "\xff\xff\xff\xff"},
		{"", 0, "\x80\x01\x00\x00"},
		{"\x00\x00\x00\x01a", 5, "\x80\x00\x10\x00"},
		{"\x00\x00\x00\x01a", 5, "\x00\x00\x10\x00"},
		{"\x00\x00\x00\x01a", 5, "\x7f\xff\xff\xff"},
		{"\x00\x00\x00\x01a\x00\x00\x00\x00", 9, "\xff\xff\xff\xff"},
		{"\x00\x00\x10\x00" + most, 4100, "\x80\x00\x00\x01"},
		{"\x00\x00\x10\x00" + most, 4100, "\x00\x00\x00\x01"},
	} {
		r := New()
		feed(t, r, c.ahead+c.head[:3], nil, api.OK, c.held+3)
		feed(t, r, c.head[3:], nil, api.ErrTooLarge, 0)
		feed(t, r, "", nil, api.ErrTooLarge, 0)
		feed(t, r, "\x80\x00\x00\x01b", nil, api.ErrTooLarge, 0)
		feed(t, New(), "\x80\x00\x00\x01a\x80\x00\x00\x00"+c.ahead+c.head+"\x80\x00\x00\x01b", records("a", ""), api.ErrTooLarge, 0)
	}
}

// P2.1: a copy goes its own way, wherever the reader stands, and so does the reader.
func TestCopy(t *testing.T) {
	all := "\x00\x00\x00\x03abc\x00\x00\x00\x00\x80\x00\x00\x09defghijkl"
	upper := "\x00\x00\x00\x03ABC\x00\x00\x00\x00\x80\x00\x00\x09DEFGHIJKL"
	for cut := range len(all) {
		for step := 1; step <= 4; step++ {
			r := New()
			for _, c := range chunks(all[:cut], step) {
				feed(t, r, c, nil, api.OK, r.Held()+len(c))
			}
			first := r.Copy()
			second := first.Copy()
			other := all[:cut] + upper[cut:]
			feed(t, r, all[cut:], records("abcdefghijkl"), api.OK, 0)
			feed(t, r, "\x80\x00\x00\x0cnopqrstuvwxy", records("nopqrstuvwxy"), api.OK, 0)
			if first.Held() != cut || second.Held() != cut {
				t.Errorf("cut %d: the copies hold %d, %d", cut, first.Held(), second.Held())
			}
			feed(t, first, other[cut:], records(other[4:7]+other[15:]), api.OK, 0)
			feed(t, second, all[cut:], records("abcdefghijkl"), api.OK, 0)
			feed(t, first, "\x80\x00\x00\x01m", records("m"), api.OK, 0)
		}
	}
}

// P2.1: copies that grow in turns keep their own bytes.
func TestCopyInTurns(t *testing.T) {
	r := New()
	feed(t, r, "\x80\x00\x00\x64", nil, api.OK, 4)
	feed(t, r, strings.Repeat("a", 40), nil, api.OK, 44)
	c := r.Copy()
	for i := range 29 {
		feed(t, c, "c", nil, api.OK, 45+2*i)
		feed(t, r, "r", nil, api.OK, 45+2*i)
		feed(t, c, "d", nil, api.OK, 46+2*i)
		feed(t, r, "s", nil, api.OK, 46+2*i)
	}
	feed(t, r, "zz\x80", records(strings.Repeat("a", 40)+strings.Repeat("rs", 29)+"zz"), api.OK, 1)
	feed(t, c, "yy", records(strings.Repeat("a", 40)+strings.Repeat("cd", 29)+"yy"), api.OK, 0)
}

// P2.1: the copy of a shut reader is shut; a copy that shuts leaves the reader open.
func TestCopyShut(t *testing.T) {
	r := New()
	c := r.Copy()
	feed(t, c, "\x80\x00\x10\x01", nil, api.ErrTooLarge, 0)
	feed(t, c.Copy(), "\x80\x00\x00\x00", nil, api.ErrTooLarge, 0)
	feed(t, r, "\x80\x00\x00\x00", records(""), api.OK, 0)
}

// P2.1: of nil.
func TestNil(t *testing.T) {
	var r *Reader
	for _, chunk := range []string{"", "\x80\x00\x00\x00", "\x80\x00\x10\x01"} {
		if got, err := r.Feed([]byte(chunk)); len(got) != 0 || err != api.ErrNil {
			t.Errorf("Feed(%q) of nil = %q, %d", chunk, got, err)
		}
	}
	if r.Held() != 0 || r.Shut() || r.Copy() != nil {
		t.Error("a nil reader holds something, is shut, or has a copy")
	}
}

// P2.2: a record of one fragment, up to MaxCall bytes.
func TestWrite(t *testing.T) {
	for _, c := range []struct{ s, want string }{
		{"", "\x80\x00\x00\x00"},
		{"a", "\x80\x00\x00\x01a"},
		{"ab", "\x80\x00\x00\x02ab"},
		{"\x00\x80\xff", "\x80\x00\x00\x03\x00\x80\xff"},
		{most[:258], "\x80\x00\x01\x02" + most[:258]},
		{most, "\x80\x00\x10\x00" + most},
	} {
		if got, err := Write(c.s); string(got) != c.want || err != api.OK {
			t.Errorf("Write(%.40q) = %.40q, %d", c.s, got, err)
		}
	}
	for _, s := range []string{most + "a", most + most} {
		if got, err := Write(s); len(got) != 0 || err != api.ErrTooLarge {
			t.Errorf("Write of %d bytes = %d bytes, %d", len(s), len(got), err)
		}
	}
}

// P2.2: fragments of a size, the last one of what is left.
func TestCut(t *testing.T) {
	for _, c := range []struct {
		s    string
		size int
		want string
	}{
		{"", 1, "\x80\x00\x00\x00"},
		{"", 5, "\x80\x00\x00\x00"},
		{"", math.MaxInt, "\x80\x00\x00\x00"},
		{"a", 1, "\x80\x00\x00\x01a"},
		{"ab", 1, "\x00\x00\x00\x01a\x80\x00\x00\x01b"},
		{"ab", 2, "\x80\x00\x00\x02ab"},
		{"abc", 1, "\x00\x00\x00\x01a\x00\x00\x00\x01b\x80\x00\x00\x01c"},
		{"abc", 2, "\x00\x00\x00\x02ab\x80\x00\x00\x01c"},
		{"abc", 3, "\x80\x00\x00\x03abc"},
		{"abc", 4, "\x80\x00\x00\x03abc"},
		{"abcd", 2, "\x00\x00\x00\x02ab\x80\x00\x00\x02cd"},
		{most, api.MaxCall, "\x80\x00\x10\x00" + most},
		{most, api.MaxCall + 1, "\x80\x00\x10\x00" + most},
		{most, math.MaxInt, "\x80\x00\x10\x00" + most},
		{most, api.MaxCall - 1, "\x00\x00\x0f\xff" + most[:4095] + "\x80\x00\x00\x01f"},
	} {
		if got, err := Cut(c.s, c.size); string(got) != c.want || err != api.OK {
			t.Errorf("Cut(%.40q, %d) = %.40q, %d", c.s, c.size, got, err)
		}
	}
}

// P2.2: too many bytes are refused ahead of a size that is none.
func TestCutRefuses(t *testing.T) {
	for _, c := range []struct {
		s    string
		size int
		want api.Errno
	}{
		{"", 0, api.ErrArg},
		{"abc", 0, api.ErrArg},
		{"abc", -1, api.ErrArg},
		{"abc", math.MinInt, api.ErrArg},
		{most, 0, api.ErrArg},
		{most + "a", 1, api.ErrTooLarge},
		{most + "a", math.MaxInt, api.ErrTooLarge},
		{most + "a", 0, api.ErrTooLarge},
		{most + "a", -1, api.ErrTooLarge},
	} {
		if got, err := Cut(c.s, c.size); len(got) != 0 || err != c.want {
			t.Errorf("Cut(%.40q, %d) = %.40q, %d; want %d", c.s, c.size, got, err, c.want)
		}
	}
}

// chunks cuts bytes into chunks of a size.
func chunks(s string, size int) []string {
	var l []string
	for len(s) > size {
		l = append(l, s[:size])
		s = s[size:]
	}
	return append(l, s)
}

// plain tells the records of bytes that came all at once, how many bytes are behind them, and whether a reader shuts.
func plain(s string) ([]string, int, bool) {
	var whole []string
	body, begin, at := "", 0, 0
	for len(s)-at >= 4 {
		n := int(s[at]&127)<<24 | int(s[at+1])<<16 | int(s[at+2])<<8 | int(s[at+3])
		if len(body)+n > api.MaxCall {
			return whole, 0, true
		}
		if len(s)-at-4 < n {
			break
		}
		body += s[at+4 : at+4+n]
		last := s[at] >= 128
		at += 4 + n
		if last {
			whole, body, begin = append(whole, body), "", at
		}
	}
	return whole, len(s) - begin, false
}

// anyBytes is fragments, one behind the other: most of them right ones, some cut off, and perhaps one that is too large.
func anyBytes(random *rand.Rand) string {
	var b strings.Builder
	for range random.Intn(8) {
		s := most[:random.Intn(40)]
		if random.Intn(8) == 0 {
			s = most[:random.Intn(api.MaxCall+1)]
		}
		l, _ := Cut(s, 1+random.Intn(len(s)+3))
		b.Write(l)
		if random.Intn(8) == 0 {
			b.WriteString("\x00\x00\x00\x00")
		}
	}
	switch random.Intn(4) {
	case 0:
		b.WriteString("\x00\x00\x10\x01")
	case 1:
		b.WriteString("\x80\x00\x00\x09abcd")
	case 2:
		b.WriteString("\x00\x00\x0f\xf8" + most[:4088] + "\x00\x00\x00\x09")
	}
	return b.String()
}

// anyChunks cuts bytes anywhere.
func anyChunks(random *rand.Rand, s string) []string {
	var l []string
	for len(s) > 0 {
		n := min(random.Intn(1+random.Intn(200)), len(s))
		l = append(l, s[:n])
		s = s[n:]
	}
	return l
}

// checkChunks asks for P2.3: the same is told of bytes in chunks as of all at once.
func checkChunks(t *testing.T, l []string) {
	t.Helper()
	want, held, shut := plain(strings.Join(l, ""))
	var got []string
	r, err := New(), api.OK
	for _, c := range l {
		var whole []string
		whole, err = r.Feed([]byte(c))
		got = append(got, whole...)
	}
	if !slices.Equal(got, want) || r.Held() != held || r.Shut() != shut || (err == api.ErrTooLarge) != shut {
		t.Errorf("%.200q: %d records, Held %d, Shut %v, %d; want %d records, Held %d, Shut %v", l, len(got), r.Held(), r.Shut(), err, len(want), held, shut)
	}
}

// P2.3: what is told hangs on the bytes alone.
func TestAnyChunks(t *testing.T) {
	random := rand.New(rand.NewSource(2))
	for range 300 {
		s := anyBytes(random)
		checkChunks(t, records(s))
		checkChunks(t, chunks(s, 1))
		checkChunks(t, anyChunks(random, s))
	}
}

func FuzzAnyChunks(f *testing.F) {
	f.Add([]byte("\x00\x00\x00\x02ab\x80\x00\x00\x01c\x80\x00\x10\x01"), 3)
	f.Fuzz(func(t *testing.T, b []byte, size int) {
		checkChunks(t, records(string(b)))
		checkChunks(t, chunks(string(b), max(size, 1)))
	})
}

// P2.4: what Write and Cut made is told as these records.
func TestBack(t *testing.T) {
	random := rand.New(rand.NewSource(24))
	for range 200 {
		var want []string
		var all []byte
		for range random.Intn(6) {
			s := most[:random.Intn(1+random.Intn(api.MaxCall+1))]
			b, err := Write(s)
			if random.Intn(2) == 0 {
				b, err = Cut(s, 1+random.Intn(len(s)+2))
			}
			if err != api.OK {
				t.Fatal(err)
			}
			want, all = append(want, s), append(all, b...)
		}
		var got []string
		r := New()
		for _, c := range anyChunks(random, string(all)) {
			whole, err := r.Feed([]byte(c))
			if err != api.OK {
				t.Fatal(err)
			}
			got = append(got, whole...)
		}
		if !slices.Equal(got, want) || r.Held() != 0 || r.Shut() {
			t.Errorf("%d records of %d, Held %d, Shut %v", len(got), len(want), r.Held(), r.Shut())
		}
	}
}

// R3: a chunk is neither changed nor kept, with the room behind it; what is told is the caller's.
func TestMemory(t *testing.T) {
	room := []byte("\x80\x00\x00\x01a\x00\x00\x00\x02bcdefgh")
	chunk := room[:11]
	r := New()
	first, _ := r.Feed(chunk)
	if string(room) != "\x80\x00\x00\x01a\x00\x00\x00\x02bcdefgh" {
		t.Errorf("the chunk is %q now", room)
	}
	for i := range room {
		room[i] = 'x'
	}
	second, _ := r.Feed([]byte("\x80\x00\x00\x01d\x80\x00\x00\x00"))
	first[0] = "y"
	if !slices.Equal(second, records("bcd", "")) {
		t.Errorf("behind a chunk that was written to: %q", second)
	}
	one, _ := Write("abc")
	two, _ := Cut("abc", 2)
	clear(one[:cap(one)])
	clear(two[:cap(two)])
	one, _ = Write("abc")
	two, _ = Cut("abc", 2)
	if !bytes.Equal(one, []byte("\x80\x00\x00\x03abc")) || !bytes.Equal(two, []byte("\x00\x00\x00\x02ab\x80\x00\x00\x01c")) {
		t.Errorf("behind answers that were written to: %q, %q", one, two)
	}
}
