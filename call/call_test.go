package call

import (
	"math"
	"math/rand"
	"strings"
	"testing"

	"jetty/api"
)

// words are the bytes of numbers, made without package xdr.
func words(l ...uint32) string {
	var b strings.Builder
	for _, n := range l {
		for _, up := range []int{24, 16, 8, 0} {
			b.WriteByte(byte(n >> up))
		}
	}
	return b.String()
}

// body is a Body of n bytes.
func body(n int) string { return strings.Repeat("\x00\x01\xfe\xff", n/4+1)[:n] }

const roomOfBody = api.MaxCall - 24

// P3.1, P3.5: a call's bytes are its words, with the Body behind them.
func TestWrite(t *testing.T) {
	for _, c := range []struct {
		h    Head
		want string
	}{
		{Head{Client: 1, Xid: 7, Proc: 1}, "\x00\x00\x00\x07\x00\x00\x00\x00\x00\x00\x01\x1c\x00\x00\x00\x03\x00\x00\x00\x01\x00\x00\x00\x01"},
		{Head{Client: 1}, words(0, 0, 284, 3, 1, 0)},
		{Head{Client: 16, Xid: math.MaxUint32, Proc: math.MaxUint32}, words(math.MaxUint32, 0, 284, 3, 16, math.MaxUint32)},
		{Head{Client: 2, Xid: 0x01020304, Proc: 0x05060708}, "\x01\x02\x03\x04\x00\x00\x00\x00\x00\x00\x01\x1c\x00\x00\x00\x03\x00\x00\x00\x02\x05\x06\x07\x08"},
		{Head{Client: 3, Xid: 1 << 31, Proc: 18, Body: body(4)}, words(1<<31, 0, 284, 3, 3, 18) + body(4)},
		{Head{Client: 3, Xid: 1, Proc: 19, Body: body(8)}, words(1, 0, 284, 3, 3, 19) + body(8)},
		{Head{Client: 4, Xid: 9, Proc: 6, Body: body(roomOfBody)}, words(9, 0, 284, 3, 4, 6) + body(roomOfBody)},
	} {
		if s, e := Write(c.h); s != c.want || e != api.OK {
			t.Errorf("Write(%.60v) = %.60q, %d; want %.60q", c.h, s, e, c.want)
		}
	}
}

// P3.1: heads that may not be; ErrArg ahead of ErrTooLarge.
func TestWriteRefuses(t *testing.T) {
	for _, c := range []struct {
		h    Head
		want api.Errno
	}{
		{Head{Client: 0}, api.ErrArg},
		{Head{Client: 17}, api.ErrArg},
		{Head{Client: -1}, api.ErrArg},
		{Head{Client: 1<<32 + 1}, api.ErrArg},
		{Head{Client: math.MinInt}, api.ErrArg},
		{Head{Client: math.MaxInt}, api.ErrArg},
		{Head{Client: 1, Xid: -1}, api.ErrArg},
		{Head{Client: 1, Xid: 1 << 32}, api.ErrArg},
		{Head{Client: 1, Xid: math.MinInt}, api.ErrArg},
		{Head{Client: 1, Xid: math.MaxInt}, api.ErrArg},
		{Head{Client: 1, Proc: -1}, api.ErrArg},
		{Head{Client: 1, Proc: 1 << 32}, api.ErrArg},
		{Head{Client: 1, Proc: math.MinInt}, api.ErrArg},
		{Head{Client: 1, Proc: math.MaxInt}, api.ErrArg},
		{Head{Client: 1, Body: body(1)}, api.ErrArg},
		{Head{Client: 1, Body: body(2)}, api.ErrArg},
		{Head{Client: 1, Body: body(7)}, api.ErrArg},
		{Head{Client: 1, Body: body(roomOfBody - 1)}, api.ErrArg},
		{Head{Client: 1, Body: body(roomOfBody + 1)}, api.ErrArg},
		{Head{Client: 1, Body: body(roomOfBody + 4)}, api.ErrTooLarge},
		{Head{Client: 1, Body: body(1 << 20)}, api.ErrTooLarge},
		{Head{Client: 0, Body: body(roomOfBody + 4)}, api.ErrArg},
		{Head{Client: 1, Xid: -1, Body: body(roomOfBody + 4)}, api.ErrArg},
		{Head{Client: 1, Proc: 1 << 32, Body: body(roomOfBody + 4)}, api.ErrArg},
	} {
		if s, e := Write(c.h); s != "" || e != c.want {
			t.Errorf("Write(%.60v) = %.60q, %d; want %d", c.h, s, e, c.want)
		}
	}
}

// A coming is what comes, and what Read answers.
type coming struct {
	s string
	h Head
	e api.Errno
}

func readRows(t *testing.T, rows []coming) {
	t.Helper()
	for _, c := range rows {
		if h, e := Read(c.s); h != c.h || e != c.e {
			t.Errorf("Read(%.60q) = %.60v, %d; want %.60v, %d", c.s, h, e, c.h, c.e)
		}
	}
}

// P3.1: the head of a call; of one of another program, or of no procedure, without the Body.
func TestRead(t *testing.T) {
	readRows(t, []coming{
		{words(7, 0, 284, 3, 1, 1), Head{Client: 1, Xid: 7, Proc: 1}, api.OK},
		{words(0, 0, 284, 3, 16, 0), Head{Client: 16}, api.OK},
		{words(math.MaxUint32, 0, 284, 3, 1, 18) + body(4), Head{Client: 1, Xid: math.MaxUint32, Proc: 18, Body: body(4)}, api.OK},
		{words(7, 0, 284, 3, 1, 1) + words(0, 0), Head{Client: 1, Xid: 7, Proc: 1, Body: words(0, 0)}, api.OK},
		{words(7, 0, 284, 3, 1, 1) + body(roomOfBody), Head{Client: 1, Xid: 7, Proc: 1, Body: body(roomOfBody)}, api.OK},
		{words(7, 0, 285, 3, 2, 1), Head{Client: 2, Xid: 7, Proc: 1}, api.ErrProg},
		{words(7, 0, 283, 3, 2, 1) + body(8), Head{Client: 2, Xid: 7, Proc: 1}, api.ErrProg},
		{words(7, 0, 284, 2, 2, 1), Head{Client: 2, Xid: 7, Proc: 1}, api.ErrProg},
		{words(7, 0, 284, 4, 2, 1) + body(8), Head{Client: 2, Xid: 7, Proc: 1}, api.ErrProg},
		{words(7, 0, 0, 0, 2, 1), Head{Client: 2, Xid: 7, Proc: 1}, api.ErrProg},
		{words(7, 0, 3, 284, 2, 1), Head{Client: 2, Xid: 7, Proc: 1}, api.ErrProg},
		{words(7, 0, 284, 3, 2, 19), Head{Client: 2, Xid: 7, Proc: 19}, api.ErrProc},
		{words(7, 0, 284, 3, 2, 20) + body(8), Head{Client: 2, Xid: 7, Proc: 20}, api.ErrProc},
		{words(7, 0, 284, 3, 2, 1<<31), Head{Client: 2, Xid: 7, Proc: 1 << 31}, api.ErrProc},
		{words(7, 0, 284, 3, 2, math.MaxUint32), Head{Client: 2, Xid: 7, Proc: math.MaxUint32}, api.ErrProc},
	})
}

// P3.1: what is no call.
func TestReadNoCall(t *testing.T) {
	var rows []coming
	for _, s := range []string{
		"", "x", words(7), words(7, 0, 284, 3, 1), words(7, 0, 284, 3, 1, 1)[:23],
		words(7, 0, 284, 3, 1, 1) + body(1), words(7, 0, 284, 3, 1, 1) + body(3),
		words(7, 0, 284, 3, 1, 1) + body(roomOfBody-1),
		words(7, 0, 284, 3, 1, 1) + body(roomOfBody+1),
		words(7, 0, 284, 3, 1, 1) + body(roomOfBody+4),
		words(7, 1, 284, 3, 1, 1), words(7, 2, 284, 3, 1, 1), words(7, math.MaxUint32, 284, 3, 1, 1), words(7, 1<<24, 284, 3, 1, 1),
		words(7, 0, 284, 3, 0, 1), words(7, 0, 284, 3, 17, 1), words(7, 0, 284, 3, math.MaxUint32, 1), words(7, 0, 284, 3, 1<<24, 1),
		words(7, 1, 0), words(7, 1, 62),
	} {
		rows = append(rows, coming{s, Head{}, api.ErrForm})
	}
	readRows(t, rows)
}

// P3.1: what comes is the first that it is.
func TestReadFirst(t *testing.T) {
	readRows(t, []coming{
		{words(7, 0, 285, 3, 1, 19), Head{Client: 1, Xid: 7, Proc: 19}, api.ErrProg},
		{words(7, 0, 284, 4, 1, 19), Head{Client: 1, Xid: 7, Proc: 19}, api.ErrProg},
		{words(7, 0, 285, 4, 0, 19), Head{}, api.ErrForm},
		{words(7, 0, 285, 3, 17, 1), Head{}, api.ErrForm},
		{words(7, 1, 285, 3, 1, 1), Head{}, api.ErrForm},
		{words(7, 0, 284, 3, 0, 19), Head{}, api.ErrForm},
		{words(7, 1, 284, 3, 1, 19), Head{}, api.ErrForm},
		{words(7, 0, 285, 3, 1, 1) + body(1), Head{}, api.ErrForm},
		{words(7, 0, 284, 3, 1, 19) + body(roomOfBody+4), Head{}, api.ErrForm},
		{words(7, 0, 285, 3, 1), Head{}, api.ErrForm},
	})
}

// isAnswer says whether an E may be told.
func isAnswer(e api.Errno) bool { return e == 0 || e == 4 || e == 62 || e == 63 }

// P3.1, P3.5: a reply's bytes are its words, with the Body behind them, as long as that may be.
func TestTell(t *testing.T) {
	for _, c := range []struct {
		a    Answer
		want string
	}{
		{Answer{Xid: 7, E: api.ErrProc}, "\x00\x00\x00\x07\x00\x00\x00\x01\x00\x00\x00\x3e"},
		{Answer{Xid: 7, E: api.ErrProg}, words(7, 1, 63)},
		{Answer{Xid: 7, E: api.ErrForm}, words(7, 1, 4)},
		{Answer{}, words(0, 1, 0)},
		{Answer{Xid: math.MaxUint32}, words(math.MaxUint32, 1, 0)},
		{Answer{Xid: 0x01020304, Body: words(9)}, "\x01\x02\x03\x04\x00\x00\x00\x01\x00\x00\x00\x00\x00\x00\x00\x09"},
		{Answer{Xid: 1, Body: body(12)}, words(1, 1, 0) + body(12)},
		{Answer{Xid: 1, Body: body(1 << 16)}, words(1, 1, 0) + body(1<<16)},
	} {
		if s, e := Tell(c.a); s != c.want || e != api.OK {
			t.Errorf("Tell(%.60v) = %.60q, %d; want %.60q", c.a, s, e, c.want)
		}
		if a, e := Hear(c.want); a != c.a || e != api.OK {
			t.Errorf("Hear(%.60q) = %.60v, %d; want %.60v", c.want, a, e, c.a)
		}
	}
}

// P3.1: answers that may not be.
func TestTellRefuses(t *testing.T) {
	refused := []Answer{
		{Xid: -1}, {Xid: 1 << 32}, {Xid: math.MinInt}, {Xid: math.MaxInt}, {Xid: 1<<32 + 7, E: api.ErrProc},
		{E: math.MinInt}, {E: math.MaxInt}, {E: 1 << 32}, {E: 1<<32 + 4}, {E: 1<<32 + 62}, {E: -4},
		{E: math.MaxUint32}, {E: math.MaxUint32, Body: body(4)},
	}
	for _, n := range []int{1, 2, 3, 5, 4097} {
		refused = append(refused, Answer{Xid: 7, Body: body(n)})
	}
	for e := api.Errno(-70); e <= 70; e++ {
		if !isAnswer(e) {
			refused = append(refused, Answer{Xid: 7, E: e})
		}
		if e != api.OK {
			refused = append(refused, Answer{Xid: 7, E: e, Body: body(1)}, Answer{Xid: 7, E: e, Body: words(0)})
		}
	}
	for _, a := range refused {
		if s, e := Tell(a); s != "" || e != api.ErrArg {
			t.Errorf("Tell(%.60v) = %.60q, %d", a, s, e)
		}
	}
}

// P3.1: no reply's bytes.
func TestHearRefuses(t *testing.T) {
	refused := []string{
		"", "x", words(7), words(7, 1), words(7, 1, 0)[:11], words(7, 1, 62)[:11], words(7, 1, 0) + body(1), words(7, 1, 0) + body(3), words(7, 1, 62) + body(2),
		words(7, 0, 0), words(7, 2, 0), words(7, math.MaxUint32, 0), words(7, 1<<24, 0), words(7, 0, 62),
		words(7, 1, math.MaxUint32), words(7, 1, 1<<31), words(7, 1, 4<<24), words(7, 1, 62<<8),
		words(7, 1, 4, 0), words(7, 1, 62, 9), words(7, 1, 63, 1, 2),
		words(7, 0, 284, 3, 1, 1), words(7, 0, 285, 3, 1, 1),
	}
	for e := range uint32(200) {
		if !isAnswer(api.Errno(e)) {
			refused = append(refused, words(7, 1, e), words(7, 1, e, 0))
		}
	}
	for _, s := range refused {
		if a, e := Hear(s); a != (Answer{}) || e != api.ErrForm {
			t.Errorf("Hear(%.60q) = %.60v, %d", s, a, e)
		}
	}
}

// some is a number of a word: small, great, or any.
func some(random *rand.Rand) int {
	return []int{0, 1, random.Intn(20), random.Intn(1 << 32), math.MaxUint32}[random.Intn(5)]
}

// anyBody is a Body of n bytes at most.
func anyBody(random *rand.Rand, n int) string {
	b := make([]byte, random.Intn(n/4+1)*4)
	random.Read(b)
	return string(b)
}

// P3.2, P3.5: what is written is read as it was, what is told is heard; how long they are.
func TestBack(t *testing.T) {
	random := rand.New(rand.NewSource(3))
	for range 3000 {
		h := Head{1 + random.Intn(16), some(random), some(random), anyBody(random, random.Intn(roomOfBody+1))}
		s, e := Write(h)
		if len(s) != 24+len(h.Body) || e != api.OK {
			t.Fatalf("Write(%.60v) = %.60q, %d", h, s, e)
		}
		want, wantErr := h, api.OK
		if h.Proc >= 19 {
			want.Body, wantErr = "", api.ErrProc
		}
		if got, e := Read(s); got != want || e != wantErr {
			t.Fatalf("Read(%.60q) = %.60v, %d; want %.60v, %d", s, got, e, want, wantErr)
		}
		a := Answer{some(random), []api.Errno{0, 4, 62, 63}[random.Intn(4)], ""}
		if a.E == api.OK {
			a.Body = anyBody(random, random.Intn(3*api.MaxCall))
		}
		s, e = Tell(a)
		if len(s) != 12+len(a.Body) || e != api.OK {
			t.Fatalf("Tell(%.60v) = %.60q, %d", a, s, e)
		}
		if got, e := Hear(s); got != a || e != api.OK {
			t.Fatalf("Hear(%.60q) = %.60v, %d; want %.60v", s, got, e, a)
		}
	}
}

// oneForm asks for P3.2 and P3.3 of any bytes: what is read, or heard, has just these bytes, and they are not both.
func oneForm(t *testing.T, s string) {
	t.Helper()
	h, e := Read(s)
	if e == api.OK {
		if again, e := Write(h); again != s || e != api.OK {
			t.Fatalf("%.60q is read as %.60v, and that written as %.60q, %d", s, h, again, e)
		}
	}
	a, heard := Hear(s)
	if heard == api.OK {
		if again, e := Tell(a); again != s || e != api.OK {
			t.Fatalf("%.60q is heard as %.60v, and that told as %.60q, %d", s, a, again, e)
		}
	}
	if e != api.ErrForm && heard == api.OK {
		t.Fatalf("%.60q is a call's and a reply's", s)
	}
}

// P3.2, P3.3: of bytes of all kinds.
func TestOneForm(t *testing.T) {
	random := rand.New(rand.NewSource(33))
	likely := []uint32{0, 1, 2, 3, 4, 16, 17, 18, 19, 62, 63, 283, 284, 285, 1 << 31, math.MaxUint32}
	for range 20000 {
		right := []uint32{7, uint32(random.Intn(2)), 284, 3, 1, 1, 9, 0}
		for range random.Intn(4) {
			right[random.Intn(8)] = likely[random.Intn(len(likely))]
		}
		s := words(right...)
		oneForm(t, s)
		oneForm(t, s[:random.Intn(len(s)+1)])
		oneForm(t, s[:4*random.Intn(9)])
	}
}

func FuzzOneForm(f *testing.F) {
	f.Add(words(7, 0, 284, 3, 1, 1, 9))
	f.Add(words(7, 1, 0, 9))
	f.Add(words(7, 1, 62))
	f.Fuzz(oneForm)
}

// P3.4: another word in the place of one of the first six changes what it says, and nothing else.
func TestOneWord(t *testing.T) {
	right := []uint32{7, 0, 284, 3, 5, 6}
	was := Head{Client: 5, Xid: 7, Proc: 6, Body: words(9, 10)}
	read := func(at int, n uint32) (Head, api.Errno) {
		l := append([]uint32{}, right...)
		l[at] = n
		return Read(words(l...) + was.Body)
	}
	for _, n := range []uint32{0, 1, 2, 3, 4, 8, 15, 16, 17, 18, 19, 20, 255, 256, 283, 284, 285, 1 << 24, 1 << 31, math.MaxUint32} {
		xid, client, proc, headAlone := was, was, was, was
		xid.Xid, client.Client, proc.Proc, headAlone.Body = int(n), int(n), int(n), ""
		want := []coming{{h: xid}, {h: was}, {h: was}, {h: was}, {h: client}, {h: proc}}
		if n != 0 {
			want[1] = coming{e: api.ErrForm}
		}
		if n != 284 {
			want[2] = coming{h: headAlone, e: api.ErrProg}
		}
		if n != 3 {
			want[3] = coming{h: headAlone, e: api.ErrProg}
		}
		if n < 1 || n > 16 {
			want[4] = coming{e: api.ErrForm}
		}
		if n >= 19 {
			proc.Body = ""
			want[5] = coming{h: proc, e: api.ErrProc}
		}
		for at, w := range want {
			if h, e := read(at, n); h != w.h || e != w.e {
				t.Errorf("the word %d is %d: %v, %d; want %v, %d", at, n, h, e, w.h, w.e)
			}
		}
	}
}

// P3.5: unlike heads have unlike bytes, and so have unlike answers.
func TestUnlike(t *testing.T) {
	numbers := []int{0, 1, 2, 16, 17, 18, 284, 1 << 8, 1 << 16, 1 << 24, 1 << 31, math.MaxUint32}
	bodies := []string{"", words(0), words(1), words(0, 0), words(1, 0), words(0, 1)}
	heads, answers := map[string]Head{}, map[string]Answer{}
	for _, xid := range numbers {
		for _, proc := range numbers {
			for client := 1; client <= api.MaxClients; client++ {
				for _, b := range bodies {
					h := Head{client, xid, proc, b}
					s, e := Write(h)
					if other, is := heads[s]; is || e != api.OK {
						t.Fatalf("%v and %v: %q, %d", h, other, s, e)
					}
					heads[s] = h
				}
			}
		}
		told := []Answer{{xid, api.ErrForm, ""}, {xid, api.ErrProc, ""}, {xid, api.ErrProg, ""}}
		for _, b := range bodies {
			told = append(told, Answer{xid, api.OK, b})
		}
		for _, a := range told {
			s, e := Tell(a)
			if other, is := answers[s]; is || e != api.OK {
				t.Fatalf("%v and %v: %q, %d", a, other, s, e)
			}
			answers[s] = a
		}
	}
	for s := range answers {
		if h, is := heads[s]; is {
			t.Errorf("%q is the call %v, and a reply", s, h)
		}
	}
}
