package args

import (
	"encoding/binary"
	"hash/fnv"
	"math"
	"math/rand"
	"slices"
	"strings"
	"testing"

	"jetty/api"
)

// asksFor and tellsOf are the chapter's table, by the fields' names.
func asksFor() []string {
	return []string{
		api.Null: "", api.GetAttr: "Handle", api.SetAttr: "Handle Mode Size Guard", api.Lookup: "Handle Name",
		api.ReadLink: "Handle", api.Read: "Handle At N", api.Write: "Handle At Stable Text",
		api.Create: "Handle Name Mode Guard", api.MkDir: "Handle Name Mode", api.SymLink: "Handle Name Text",
		api.Remove: "Handle Name", api.RmDir: "Handle Name", api.Rename: "Handle Name To Other",
		api.HardLink: "Handle To Name", api.ReadDir: "Handle At N Verf", api.Stat: "Handle", api.Commit: "Handle",
		api.SnapMake: "Handle Name", api.SnapDrop: "Handle Name",
	}
}

func tellsOf() []string {
	return []string{
		api.Null: "", api.GetAttr: "Attr", api.SetAttr: "Attr", api.Lookup: "Handle Attr", api.ReadLink: "Text",
		api.Read: "Text End Attr", api.Write: "N Verf Attr", api.Create: "Handle Attr", api.MkDir: "Handle Attr",
		api.SymLink: "Handle Attr", api.Remove: "", api.RmDir: "", api.Rename: "", api.HardLink: "Attr",
		api.ReadDir: "Entries End Verf", api.Stat: "N Free Used", api.Commit: "Verf", api.SnapMake: "Handle", api.SnapDrop: "",
	}
}

func allAsked() []string {
	return strings.Fields("Handle To Name Other Text At N Mode Size Stable Guard Verf")
}

func allTold() []string {
	return strings.Fields("Handle Attr Text N Free Used End Entries Verf")
}

// noProcs are numbers of no procedure.
func noProcs() []int {
	return []int{-1, 19, 20, 255, 256 + api.GetAttr, 1<<32 + api.GetAttr, math.MinInt, math.MaxInt}
}

// The words, made without xdr and handle.

func word(n uint32) string { return string(binary.BigEndian.AppendUint32(nil, n)) }

func long(n uint64) string { return string(binary.BigEndian.AppendUint64(nil, n)) }

func ints(l ...int) string {
	var b strings.Builder
	for _, n := range l {
		b.WriteString(long(uint64(n)))
	}
	return b.String()
}

func textWords(s string) string {
	return word(uint32(len(s))) + s + "\x00\x00\x00"[:(4-len(s)%4)%4]
}

func handleWords(h api.Handle) string {
	first := word(1) + word(uint32(h.Snap)) + word(uint32(h.Ino)) + word(uint32(h.Gen))
	f := fnv.New64a()
	f.Write([]byte(first))
	return first + string(f.Sum(nil))
}

func flagWords(is bool) string {
	if is {
		return word(1)
	}
	return word(0)
}

func attrWords(a api.Attr) string {
	return word(uint32(a.Kind)) + ints(a.Mode, a.Links, a.Size, a.Mtime, a.Ctime, a.Ino, a.Gen)
}

func entriesWords(l []api.Entry) string {
	b := word(uint32(len(l)))
	for _, e := range l {
		b += textWords(e.Name) + ints(e.Ino, e.Cookie)
	}
	return b
}

func askedWords(proc int, a api.Args) string {
	var b strings.Builder
	for _, field := range strings.Fields(asksFor()[proc]) {
		b.WriteString(map[string]string{
			"Handle": handleWords(a.Handle), "To": handleWords(a.To), "Name": textWords(a.Name), "Other": textWords(a.Other),
			"Text": textWords(a.Text), "At": ints(a.At), "N": ints(a.N), "Mode": ints(a.Mode), "Size": ints(a.Size),
			"Stable": ints(a.Stable), "Guard": ints(a.Guard), "Verf": long(a.Verf),
		}[field])
	}
	return b.String()
}

func toldWords(proc int, r api.Result) string {
	if r.E != api.OK {
		return word(uint32(r.E))
	}
	var b strings.Builder
	b.WriteString(word(0))
	for _, field := range strings.Fields(tellsOf()[proc]) {
		b.WriteString(map[string]string{
			"Handle": handleWords(r.Handle), "Attr": attrWords(r.Attr), "Text": textWords(r.Text), "N": ints(r.N),
			"Free": ints(r.Free), "Used": long(r.Used), "End": flagWords(r.End), "Entries": entriesWords(r.Entries), "Verf": long(r.Verf),
		}[field])
	}
	return b.String()
}

// keep puts a field of other arguments into some.
func keep(into *api.Args, from api.Args, field string) {
	switch field {
	case "Handle":
		into.Handle = from.Handle
	case "To":
		into.To = from.To
	case "Name":
		into.Name = from.Name
	case "Other":
		into.Other = from.Other
	case "Text":
		into.Text = from.Text
	case "At":
		into.At = from.At
	case "N":
		into.N = from.N
	case "Mode":
		into.Mode = from.Mode
	case "Size":
		into.Size = from.Size
	case "Stable":
		into.Stable = from.Stable
	case "Guard":
		into.Guard = from.Guard
	case "Verf":
		into.Verf = from.Verf
	}
}

// take is of some arguments just the fields that are named.
func take(from api.Args, fields ...string) api.Args {
	var a api.Args
	for _, field := range fields {
		keep(&a, from, field)
	}
	return a
}

func asked(proc int, from api.Args) api.Args {
	return take(from, strings.Fields(asksFor()[proc])...)
}

// keepTold puts a field of another result into one.
func keepTold(into *api.Result, from api.Result, field string) {
	switch field {
	case "Handle":
		into.Handle = from.Handle
	case "Attr":
		into.Attr = from.Attr
	case "Text":
		into.Text = from.Text
	case "N":
		into.N = from.N
	case "Free":
		into.Free = from.Free
	case "Used":
		into.Used = from.Used
	case "End":
		into.End = from.End
	case "Entries":
		into.Entries = from.Entries
	case "Verf":
		into.Verf = from.Verf
	}
}

// takeTold is of a result just the fields that are named.
func takeTold(from api.Result, fields ...string) api.Result {
	var r api.Result
	for _, field := range fields {
		keepTold(&r, from, field)
	}
	return r
}

func told(proc int, from api.Result) api.Result {
	return takeTold(from, strings.Fields(tellsOf()[proc])...)
}

// alike says whether two results are the same, by their words of all fields.
func alike(a, b api.Result) bool {
	all := func(r api.Result) string {
		return ints(int(r.E), r.Handle.Snap, r.Handle.Ino, r.Handle.Gen, r.N, r.Free) + attrWords(r.Attr) +
			textWords(r.Text) + long(r.Used) + flagWords(r.End) + entriesWords(r.Entries) + long(r.Verf)
	}
	return all(a) == all(b)
}

// fullArgs have something in each field, and in each another thing.
func fullArgs() api.Args {
	return api.Args{
		Handle: api.Handle{Snap: 2, Ino: 77, Gen: 5}, To: api.Handle{Snap: 3, Ino: 78, Gen: 6},
		Name: "name", Other: "others", Text: "text \x00\xff", At: 0x0102030405060708, N: 9, Mode: -1, Size: 11,
		Stable: 12, Guard: 13, Verf: 0xf1f2f3f4f5f6f7f8,
	}
}

func fullAttr() api.Attr {
	return api.Attr{Kind: api.Link, Mode: 21, Links: 22, Size: 23, Mtime: 24, Ctime: -25, Ino: 26, Gen: 27}
}

func fullResult() api.Result {
	return api.Result{
		Handle: api.Handle{Snap: 2, Ino: 77, Gen: 5}, Attr: fullAttr(), Text: "text \x00\xff", N: 31, Free: 32,
		Used: 0xe1e2e3e4e5e6e7e8, End: true, Verf: 0xf1f2f3f4f5f6f7f8,
		Entries: []api.Entry{{Name: "a", Ino: 2, Cookie: 3}, {Name: "", Ino: -4, Cookie: 0x0102030405060708}, {Name: "abcd"}},
	}
}

func checkArgs(t *testing.T, proc int, a api.Args) {
	t.Helper()
	want := askedWords(proc, a)
	if s, e := Write(proc, a); s != want || e != api.OK || len(s)%4 != 0 {
		t.Errorf("Write(%d, %.200v) = %.200q, %d; want %.200q", proc, a, s, e, want)
	}
	if back, e := Read(proc, want); back != a || e != api.OK {
		t.Errorf("Read(%d, %.200q) = %.200v, %d; want %.200v", proc, want, back, e, a)
	}
}

func checkResult(t *testing.T, proc int, r api.Result) {
	t.Helper()
	want := toldWords(proc, r)
	if s, e := Tell(proc, r); s != want || e != api.OK || len(s)%4 != 0 {
		t.Errorf("Tell(%d, %.200v) = %.200q, %d; want %.200q", proc, r, s, e, want)
	}
	if back, e := Hear(proc, want); !alike(back, r) || e != api.OK {
		t.Errorf("Hear(%d, %.200q) = %.200v, %d; want %.200v", proc, want, back, e, r)
	}
}

func noWrite(t *testing.T, proc int, a api.Args, want api.Errno) {
	t.Helper()
	if s, e := Write(proc, a); s != "" || e != want {
		t.Errorf("Write(%d, %.200v) = %.200q, %d; want %d", proc, a, s, e, want)
	}
}

func noRead(t *testing.T, proc int, s string, want api.Errno) {
	t.Helper()
	if a, e := Read(proc, s); a != (api.Args{}) || e != want {
		t.Errorf("Read(%d, %.200q) = %.200v, %d; want %d", proc, s, a, e, want)
	}
}

func noTell(t *testing.T, proc int, r api.Result, want api.Errno) {
	t.Helper()
	if s, e := Tell(proc, r); s != "" || e != want {
		t.Errorf("Tell(%d, %.200v) = %.200q, %d; want %d", proc, r, s, e, want)
	}
}

func noHear(t *testing.T, proc int, s string, want api.Errno) {
	t.Helper()
	if r, e := Hear(proc, s); !alike(r, api.Result{}) || e != want {
		t.Errorf("Hear(%d, %.200q) = %.200v, %d; want %d", proc, s, r, e, want)
	}
}

func TestLimits(t *testing.T) {
	if LongName != 255 || MaxEntries != 64 || LastError != 63 {
		t.Errorf("LongName %d, MaxEntries %d, LastError %d", LongName, MaxEntries, LastError)
	}
	if len(asksFor()) != api.Procs || len(tellsOf()) != api.Procs {
		t.Errorf("%d and %d rows", len(asksFor()), len(tellsOf()))
	}
}

// P5.1: bytes that are spelt out.
func TestSpelt(t *testing.T) {
	h := api.Handle{Ino: 1}
	root := "\x00\x00\x00\x01\x00\x00\x00\x00\x00\x00\x00\x01\x00\x00\x00\x00\x04\xdd\xa8\x69\x91\xe4\x7a\x05"
	five, nine := "\x00\x00\x00\x00\x00\x00\x00\x05", "\x00\x00\x00\x00\x00\x00\x00\x09"
	for _, c := range []struct {
		proc int
		a    api.Args
		want string
	}{
		{api.Null, api.Args{}, ""},
		{api.GetAttr, api.Args{Handle: h}, root},
		{api.Read, api.Args{Handle: h, At: 5, N: 9}, root + five + nine},
		{api.Write, api.Args{Handle: h, At: 5, Text: "abcde"}, root + five + "\x00\x00\x00\x00\x00\x00\x00\x00" + "\x00\x00\x00\x05abcde\x00\x00\x00"},
		{api.SetAttr, api.Args{Handle: h, Mode: -1, Size: 5, Guard: 9}, root + "\xff\xff\xff\xff\xff\xff\xff\xff" + five + nine},
	} {
		if s, e := Write(c.proc, c.a); s != c.want || e != api.OK {
			t.Errorf("Write(%d, %v) = %q, %d; want %q", c.proc, c.a, s, e, c.want)
		}
		if a, e := Read(c.proc, c.want); a != c.a || e != api.OK {
			t.Errorf("Read(%d, %q) = %v, %d", c.proc, c.want, a, e)
		}
	}
	noWrite(t, api.Lookup, api.Args{Handle: h, Name: "a", At: 1}, api.ErrForm)
	for _, c := range []struct {
		proc int
		r    api.Result
		want string
	}{
		{api.Null, api.Result{}, "\x00\x00\x00\x00"},
		{api.GetAttr, api.Result{E: api.ErrStale}, "\x00\x00\x00\x36"},
		{api.ReadDir, api.Result{End: true, Verf: 9}, "\x00\x00\x00\x00" + "\x00\x00\x00\x00" + "\x00\x00\x00\x01" + nine},
		{api.ReadLink, api.Result{Text: "a"}, "\x00\x00\x00\x00" + "\x00\x00\x00\x01a\x00\x00\x00"},
		{api.SnapMake, api.Result{Handle: h}, "\x00\x00\x00\x00" + root},
	} {
		if s, e := Tell(c.proc, c.r); s != c.want || e != api.OK {
			t.Errorf("Tell(%d, %v) = %q, %d; want %q", c.proc, c.r, s, e, c.want)
		}
		if r, e := Hear(c.proc, c.want); !alike(r, c.r) || e != api.OK {
			t.Errorf("Hear(%d, %q) = %v, %d", c.proc, c.want, r, e)
		}
	}
	noHear(t, api.GetAttr, "\x00\x00\x00\x00", api.ErrForm)
}

// P5.1: each procedure's words, in the table's order; also with as little in all fields as may be.
func TestEachProcedure(t *testing.T) {
	little := api.Args{Handle: api.Handle{Ino: 1}, To: api.Handle{Ino: 1}}
	nothing := api.Result{Handle: api.Handle{Ino: 1}, Attr: api.Attr{Kind: api.File}}
	for proc := range api.Procs {
		checkArgs(t, proc, asked(proc, fullArgs()))
		checkArgs(t, proc, asked(proc, little))
		checkResult(t, proc, told(proc, fullResult()))
		checkResult(t, proc, told(proc, nothing))
		for e := api.Errno(1); e <= 63; e++ {
			checkResult(t, proc, api.Result{E: e})
		}
	}
}

// P5.1: the most and the least of each field, in each procedure that has it.
func TestEdges(t *testing.T) {
	const most = api.MaxCount
	numbers := []int{math.MinInt, -1, 0, 1, math.MaxUint32, math.MaxUint32 + 1, math.MaxInt}
	texts := []string{"", "a", "\x00", "abcd", strings.Repeat("x", 254), strings.Repeat("/", 255)}
	handles := []api.Handle{{Ino: 1}, {Snap: most, Ino: most, Gen: most}, {Snap: 1, Ino: 2, Gen: 3}}
	for proc := range api.Procs {
		for _, n := range numbers {
			a, r := fullArgs(), fullResult()
			a.At, a.N, a.Mode, a.Size, a.Stable, a.Guard, a.Verf = n, n, n, n, n, n, uint64(n)
			r.N, r.Free, r.Used, r.Verf, r.End = n, n, uint64(n), uint64(n), n > 0
			r.Attr = api.Attr{Kind: api.Dir, Mode: n, Links: n, Size: n, Mtime: n, Ctime: n, Ino: n, Gen: n}
			r.Entries = []api.Entry{{Name: "a", Ino: n, Cookie: n}}
			checkArgs(t, proc, asked(proc, a))
			checkResult(t, proc, told(proc, r))
		}
		for _, s := range texts {
			a, r := fullArgs(), fullResult()
			a.Name, a.Other, a.Text = s, s, s+strings.Repeat("y", api.MaxRead-255)
			r.Text, r.Entries = s+strings.Repeat("y", api.MaxRead-255), slices.Repeat([]api.Entry{{Name: s, Ino: 1}}, MaxEntries)
			checkArgs(t, proc, asked(proc, a))
			checkResult(t, proc, told(proc, r))
		}
		for _, h := range handles {
			a, r := fullArgs(), fullResult()
			a.Handle, a.To, r.Handle = h, h, h
			checkArgs(t, proc, asked(proc, a))
			checkResult(t, proc, told(proc, r))
		}
		for kind := uint8(1); kind <= 3; kind++ {
			r := fullResult()
			r.Attr.Kind = kind
			checkResult(t, proc, told(proc, r))
		}
	}
}

// P5.1: what is not asked for, or told, is zero.
func TestNotAskedFor(t *testing.T) {
	for proc := range api.Procs {
		mine := strings.Fields(asksFor()[proc])
		for _, field := range allAsked() {
			if !slices.Contains(mine, field) {
				noWrite(t, proc, take(fullArgs(), append(slices.Clone(mine), field)...), api.ErrForm)
			}
		}
		mine = strings.Fields(tellsOf()[proc])
		for _, field := range allTold() {
			more := takeTold(fullResult(), append(slices.Clone(mine), field)...)
			if !slices.Contains(mine, field) {
				noTell(t, proc, more, api.ErrForm)
			}
			more.E = api.ErrNone
			noTell(t, proc, more, api.ErrForm)
			alone := takeTold(fullResult(), field)
			alone.E = api.ErrNone
			noTell(t, proc, alone, api.ErrForm)
		}
	}
}

// badHandles are some that may not be.
func badHandles() []api.Handle {
	const past = api.MaxCount + 1
	return []api.Handle{
		{}, {Snap: -1, Ino: 1}, {Snap: past, Ino: 1}, {Ino: -1}, {Ino: past}, {Ino: 1<<32 + 1},
		{Ino: 1, Gen: -1}, {Ino: 1, Gen: past}, {Snap: math.MinInt, Ino: math.MinInt, Gen: math.MinInt},
	}
}

// P5.1: arguments that may not be.
func TestWriteRefuses(t *testing.T) {
	for proc, fields := range asksFor() {
		has := func(field string) bool { return slices.Contains(strings.Fields(fields), field) }
		for _, h := range badHandles() {
			a := fullArgs()
			a.Handle = h
			if has("Handle") {
				noWrite(t, proc, asked(proc, a), api.ErrForm)
			}
			a = fullArgs()
			a.To = h
			if has("To") {
				noWrite(t, proc, asked(proc, a), api.ErrForm)
			}
		}
		for _, n := range []int{1, 2, 5, 1 << 16} {
			for _, field := range []string{"Name", "Other", "Text"} {
				a := fullArgs()
				switch field {
				case "Name":
					a.Name = strings.Repeat("x", LongName+n)
				case "Other":
					a.Other = strings.Repeat("x", LongName+n)
				case "Text":
					a.Text = strings.Repeat("x", api.MaxRead+n)
				}
				if has(field) {
					noWrite(t, proc, asked(proc, a), api.ErrForm)
				}
			}
		}
	}
	noWrite(t, api.GetAttr, api.Args{}, api.ErrForm)
	noWrite(t, api.Null, fullArgs(), api.ErrForm)
}

// P5.1: results that may not be.
func TestTellRefuses(t *testing.T) {
	for proc, fields := range tellsOf() {
		refuse := func(field string, change func(r *api.Result)) {
			t.Helper()
			if field == "" || slices.Contains(strings.Fields(fields), field) {
				r := told(proc, fullResult())
				change(&r)
				noTell(t, proc, r, api.ErrForm)
			}
		}
		for _, e := range []api.Errno{-1, 64, 65, 256, 1 << 32, 1<<32 + 1, math.MinInt, math.MaxInt} {
			refuse("", func(r *api.Result) { r.E = e })
			refuse("", func(r *api.Result) { *r = api.Result{E: e} })
		}
		for _, h := range badHandles() {
			refuse("Handle", func(r *api.Result) { r.Handle = h })
		}
		for _, kind := range []uint8{0, 4, 5, 255} {
			refuse("Attr", func(r *api.Result) { r.Attr.Kind = kind })
		}
		refuse("Attr", func(r *api.Result) { r.Attr = api.Attr{} })
		for _, n := range []int{1, 2, 5, 1 << 16} {
			refuse("Text", func(r *api.Result) { r.Text = strings.Repeat("x", api.MaxRead+n) })
			refuse("Entries", func(r *api.Result) { r.Entries = make([]api.Entry, MaxEntries+n) })
			refuse("Entries", func(r *api.Result) { r.Entries[0].Name = strings.Repeat("x", LongName+n) })
			refuse("Entries", func(r *api.Result) { r.Entries[2].Name = strings.Repeat("x", LongName+n) })
		}
	}
}

// P5.1: no such words, or something behind them.
func TestReadRefuses(t *testing.T) {
	for proc := range api.Procs {
		s := askedWords(proc, asked(proc, fullArgs()))
		for n := range s {
			noRead(t, proc, s[:n], api.ErrForm)
		}
		for _, more := range []string{"\x00", "\x00\x00\x00", "\x00\x00\x00\x00", s + "\x01", strings.Repeat("\x00", 5000)} {
			noRead(t, proc, s+more, api.ErrForm)
		}
		for other, fields := range asksFor() {
			if words := askedWords(other, asked(other, fullArgs())); fields != asksFor()[proc] {
				checkOneForm(t, proc, words)
			}
		}
	}
	h := handleWords(api.Handle{Ino: 1})
	turned := []byte(h)
	turned[23]++
	for _, s := range []string{
		string(turned), strings.Repeat("\x00", 24), strings.Repeat("\xff", 24),
		handleWords(api.Handle{}), handleWords(api.Handle{Snap: -1, Ino: 1}), handleWords(api.Handle{Ino: 1 << 31}), handleWords(api.Handle{Ino: 1, Gen: 1 << 31}),
	} {
		noRead(t, api.GetAttr, s, api.ErrForm)
		noRead(t, api.Lookup, s+textWords("a"), api.ErrForm)
		noRead(t, api.HardLink, s+h+textWords("a"), api.ErrForm)
		noRead(t, api.HardLink, h+s+textWords("a"), api.ErrForm)
		noRead(t, api.Rename, h+textWords("a")+s+textWords("b"), api.ErrForm)
	}
	long := textWords(strings.Repeat("x", LongName+1))
	for _, s := range []string{
		word(256) + strings.Repeat("x", 256), long, word(math.MaxUint32), word(5) + "abcd", word(1) + "a\x00\x00\x01", word(1) + "a\x00\x01\x00", word(1) + "a",
	} {
		noRead(t, api.Lookup, h+s, api.ErrForm)
		noRead(t, api.Rename, h+textWords("a")+h+s, api.ErrForm)
	}
	noRead(t, api.Rename, h+textWords("a")+h+long, api.ErrForm)
	noRead(t, api.SymLink, h+textWords("a")+textWords(strings.Repeat("x", api.MaxRead+1)), api.ErrForm)
	noRead(t, api.Write, h+ints(0, 0)+textWords(strings.Repeat("x", api.MaxRead+4)), api.ErrForm)
}

// P5.1: no such words of a result, or something behind them.
func TestHearRefuses(t *testing.T) {
	for proc := range api.Procs {
		s := toldWords(proc, told(proc, fullResult()))
		for n := range s {
			noHear(t, proc, s[:n], api.ErrForm)
		}
		for _, more := range []string{"\x00", "\x00\x00\x00", "\x00\x00\x00\x00", s + "\x01", strings.Repeat("\x00", 5000)} {
			noHear(t, proc, s+more, api.ErrForm)
			noHear(t, proc, word(5)+more, api.ErrForm)
		}
		noHear(t, proc, word(5)+s[4:]+word(0), api.ErrForm)
		for _, e := range []uint32{64, 65, 255, 256, 5 << 8, 5 << 24, 1 << 31, math.MaxUint32} {
			noHear(t, proc, word(e), api.ErrForm)
			noHear(t, proc, word(e)+s[4:], api.ErrForm)
		}
	}
	attr := attrWords(fullAttr())
	for _, kind := range []uint32{0, 4, 255, 256, 257, 1 << 24, 1<<31 | 1, math.MaxUint32} {
		noHear(t, api.GetAttr, word(0)+word(kind)+attr[4:], api.ErrForm)
		noHear(t, api.Read, word(0)+textWords("a")+word(1)+word(kind)+attr[4:], api.ErrForm)
	}
	h := handleWords(api.Handle{Ino: 1})
	turned := []byte(h)
	turned[0]++
	for _, s := range []string{string(turned), handleWords(api.Handle{}), handleWords(api.Handle{Snap: 1 << 31, Ino: 1})} {
		noHear(t, api.SnapMake, word(0)+s, api.ErrForm)
		noHear(t, api.Lookup, word(0)+s+attr, api.ErrForm)
	}
	for _, end := range []uint32{2, 256, 1 << 24, math.MaxUint32} {
		noHear(t, api.Read, word(0)+textWords("a")+word(end)+attr, api.ErrForm)
		noHear(t, api.ReadDir, word(0)+word(0)+word(end)+long(9), api.ErrForm)
	}
	rest := word(1) + long(9)
	entry := textWords("a") + ints(2, 3)
	tooLong := textWords(strings.Repeat("x", LongName+1)) + ints(2, 3)
	for _, entries := range []string{
		word(65) + strings.Repeat(entry, 65), word(0) + entry, word(1), word(1) + entry + entry, word(2) + entry, word(math.MaxUint32) + entry,
		word(1) + tooLong, word(2) + entry + tooLong, word(2) + tooLong + entry, word(1) + word(1) + "a\x00\x00\x01" + ints(2, 3),
	} {
		noHear(t, api.ReadDir, word(0)+entries+rest, api.ErrForm)
	}
	noHear(t, api.ReadLink, word(0)+textWords(strings.Repeat("x", api.MaxRead+1)), api.ErrForm)
	noHear(t, api.ReadLink, word(0)+textWords(strings.Repeat("x", api.MaxRead+4)), api.ErrForm)
}

// Of no procedure: ErrProc, ahead of ErrForm.
func TestNoProcedure(t *testing.T) {
	for _, proc := range noProcs() {
		noWrite(t, proc, api.Args{}, api.ErrProc)
		noWrite(t, proc, fullArgs(), api.ErrProc)
		noTell(t, proc, api.Result{}, api.ErrProc)
		noTell(t, proc, fullResult(), api.ErrProc)
		noTell(t, proc, api.Result{E: -1}, api.ErrProc)
		noTell(t, proc, api.Result{E: api.ErrProc}, api.ErrProc)
		for _, s := range []string{"", "x", word(0), word(5), word(64), handleWords(api.Handle{Ino: 1})} {
			noRead(t, proc, s, api.ErrProc)
			noHear(t, proc, s, api.ErrProc)
		}
		for _, stable := range []int{0, 1} {
			if Changes(proc, api.Args{Stable: stable}) {
				t.Errorf("Changes(%d, Stable %d)", proc, stable)
			}
		}
	}
}

// P5.2: what changes something, whatever else is in the arguments; a Write just if it is not unstable.
func TestChanges(t *testing.T) {
	changing := []int{api.SetAttr, api.Create, api.MkDir, api.SymLink, api.Remove, api.RmDir, api.Rename, api.HardLink, api.SnapMake, api.SnapDrop}
	for proc := range api.Procs {
		for _, stable := range []int{0, 1, 2, -1, 1 << 32, math.MinInt, math.MaxInt} {
			want := slices.Contains(changing, proc) || proc == api.Write && stable != 0
			other := fullArgs()
			other.Stable = stable
			for _, a := range []api.Args{{Stable: stable}, other} {
				if Changes(proc, a) != want {
					t.Errorf("Changes(%d, %v) = %v", proc, a, !want)
				}
			}
		}
	}
}

// Random arguments and results.

func someNumber(random *rand.Rand) int {
	switch random.Intn(3) {
	case 0:
		return random.Intn(5) - 1
	case 1:
		return int(random.Uint64())
	}
	return []int{math.MinInt, math.MaxInt, math.MaxUint32, api.MaxCount}[random.Intn(4)]
}

func someHandle(random *rand.Rand) api.Handle {
	if random.Intn(2) == 0 {
		return api.Handle{Snap: random.Intn(2), Ino: 1 + random.Intn(2), Gen: random.Intn(2)}
	}
	return api.Handle{Snap: random.Intn(1 << 31), Ino: 1 + random.Intn(1<<31-1), Gen: random.Intn(1 << 31)}
}

// someText is one of at most so many bytes, often of few.
func someText(random *rand.Rand, most int) string {
	b := make([]byte, random.Intn([]int{3, 9, most + 1}[random.Intn(3)]))
	random.Read(b)
	return string(b)
}

func someArgs(random *rand.Rand) api.Args {
	n := func() int { return someNumber(random) }
	return api.Args{
		Handle: someHandle(random), To: someHandle(random), Name: someText(random, LongName), Other: someText(random, LongName),
		Text: someText(random, api.MaxRead), At: n(), N: n(), Mode: n(), Size: n(), Stable: n(), Guard: n(), Verf: uint64(n()),
	}
}

func someResult(random *rand.Rand) api.Result {
	n := func() int { return someNumber(random) }
	var l []api.Entry
	for range random.Intn([]int{2, MaxEntries + 1}[random.Intn(2)]) {
		l = append(l, api.Entry{Name: someText(random, LongName), Ino: n(), Cookie: n()})
	}
	return api.Result{
		Handle: someHandle(random), Text: someText(random, api.MaxRead), N: n(), Free: n(), Used: uint64(n()), End: random.Intn(2) == 0,
		Attr:    api.Attr{Kind: uint8(1 + random.Intn(3)), Mode: n(), Links: n(), Size: n(), Mtime: n(), Ctime: n(), Ino: n(), Gen: n()},
		Entries: l, Verf: uint64(n()),
	}
}

// P5.3: there and back.
func TestBack(t *testing.T) {
	random := rand.New(rand.NewSource(53))
	for range 200 {
		for proc := range api.Procs {
			checkArgs(t, proc, asked(proc, someArgs(random)))
			checkResult(t, proc, told(proc, someResult(random)))
		}
	}
}

// checkOneForm asks for P5.3 of any bytes: what is read, or heard, of them has just these bytes.
func checkOneForm(t *testing.T, proc int, s string) {
	t.Helper()
	a, e := Read(proc, s)
	if e != api.OK && a != (api.Args{}) {
		t.Fatalf("Read(%d, %.200q) = %.200v, %d", proc, s, a, e)
	}
	if e == api.OK {
		if again, e := Write(proc, a); again != s || e != api.OK {
			t.Fatalf("%d: %.200q is read as %.200v, and that written as %.200q, %d", proc, s, a, again, e)
		}
	}
	r, e := Hear(proc, s)
	if e != api.OK && !alike(r, api.Result{}) {
		t.Fatalf("Hear(%d, %.200q) = %.200v, %d", proc, s, r, e)
	}
	if e == api.OK {
		if again, e := Tell(proc, r); again != s || e != api.OK {
			t.Fatalf("%d: %.200q is heard as %.200v, and that told as %.200q, %d", proc, s, r, again, e)
		}
	}
}

// P5.3: of words in which some were put out, in, or changed.
func TestOneForm(t *testing.T) {
	random := rand.New(rand.NewSource(54))
	likely := []uint32{0, 1, 2, 3, 4, 63, 64, 65, 255, 256, 257, 2048, 2049, 1 << 31, math.MaxUint32}
	for range 200 {
		for proc := range api.Procs {
			for _, s := range []string{askedWords(proc, asked(proc, someArgs(random))), toldWords(proc, told(proc, someResult(random)))} {
				checkOneForm(t, random.Intn(api.Procs), s)
				at := random.Intn(len(s)/4+1) * 4
				put := word(likely[random.Intn(len(likely))])
				checkOneForm(t, proc, s[:at]+put+s[at:])
				checkOneForm(t, proc, s[:at]+put+s[min(at+4, len(s)):])
				checkOneForm(t, proc, s[:at]+s[min(at+4, len(s)):])
				if s != "" {
					b := []byte(s)
					b[random.Intn(len(b))] ^= 1 << random.Intn(8)
					checkOneForm(t, proc, string(b))
				}
			}
		}
	}
}

func FuzzOneForm(f *testing.F) {
	for proc := range api.Procs {
		f.Add(proc, askedWords(proc, asked(proc, fullArgs())))
		f.Add(proc, toldWords(proc, told(proc, fullResult())))
	}
	f.Fuzz(checkOneForm)
}

// P5.4: the longest arguments of each procedure have room in a call.
func TestShort(t *testing.T) {
	most := fullArgs()
	most.Name, most.Other, most.Text = strings.Repeat("n", LongName), strings.Repeat("o", LongName), strings.Repeat("t", api.MaxRead)
	for proc := range api.Procs {
		s, e := Write(proc, asked(proc, most))
		if e != api.OK || len(s) > api.MaxCall-24 {
			t.Errorf("Write(%d): %d bytes, %d", proc, len(s), e)
		}
	}
}

// P5.5: unlike arguments of one procedure have unlike words.
func TestOne(t *testing.T) {
	values := []api.Args{
		{Handle: api.Handle{Ino: 1}, To: api.Handle{Ino: 1}},
		{Handle: api.Handle{Ino: 2}, To: api.Handle{Ino: 1, Gen: 1}, Name: "\x00", Other: "\x00", Text: "\x00", At: 1, N: 1, Mode: 1, Size: 1, Stable: 1, Guard: 1, Verf: 1},
		{Handle: api.Handle{Snap: 1, Ino: 1}, To: api.Handle{Ino: 257}, Name: "\x00\x00", Other: "a", Text: "a\x00", At: -1, N: 1 << 32, Mode: -1, Size: 1 << 8, Stable: -1, Guard: 1 << 62, Verf: 1 << 63},
	}
	for proc := range api.Procs {
		all := []api.Args{{}}
		for _, field := range strings.Fields(asksFor()[proc]) { // from any of the values
			var more []api.Args
			for _, a := range all {
				for _, from := range values {
					keep(&a, from, field)
					more = append(more, a)
				}
			}
			all = more
		}
		seen := map[string]api.Args{}
		for _, a := range all {
			s, e := Write(proc, a)
			if other, is := seen[s]; is || e != api.OK {
				t.Fatalf("%d: %v and %v: %q, %d", proc, a, other, s, e)
			}
			if again, _ := Write(proc, a); again != s {
				t.Fatalf("%d: %v is %q, and %q", proc, a, s, again)
			}
			seen[s] = a
		}
	}
}

// R3: what is handed in is not changed, nor read beyond its length; what is handed out is new.
func TestNewMemory(t *testing.T) {
	room := slices.Repeat([]api.Entry{{Name: "b", Ino: 4, Cookie: 5}}, 3)
	want := slices.Clone(room)
	r := api.Result{Entries: room[:1], Verf: 9}
	s, e := Tell(api.ReadDir, r)
	if s != toldWords(api.ReadDir, r) || e != api.OK || !slices.Equal(room, want) {
		t.Errorf("Tell: %q, %d, %v", s, e, room)
	}
	first, _ := Hear(api.ReadDir, s)
	second, _ := Hear(api.ReadDir, s)
	spare := first.Entries[:cap(first.Entries)]
	for i := range spare {
		spare[i] = api.Entry{Name: "other"}
	}
	if third, _ := Hear(api.ReadDir, s); !alike(second, r) || !alike(third, r) {
		t.Errorf("Hear: %v, %v", second, third)
	}
}

// R6: no entries are the same, nil or empty.
func TestEmpty(t *testing.T) {
	empty := []api.Entry{}
	for proc := range api.Procs {
		r := told(proc, fullResult())
		r.Entries = empty
		checkResult(t, proc, r)
		checkResult(t, proc, api.Result{E: api.ErrNone, Entries: empty})
	}
}
