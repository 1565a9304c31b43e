package octet

import (
	"math"
	"math/rand"
	"slices"
	"strings"
	"testing"
	"unsafe"

	"palaver/api"
)

// tail is what stands behind an encoding in the tests: it must not be read.
const tail = "\x80\x00\xff"

// Promise 1.1.
func TestNum(t *testing.T) {
	for _, c := range []struct {
		n    uint64
		want string
	}{
		{0, "\x00"},
		{1, "\x01"},
		{127, "\x7f"},
		{128, "\x80\x01"},
		{300, "\xac\x02"},
		{1<<14 - 1, "\xff\x7f"},
		{1 << 14, "\x80\x80\x01"},
		{1<<42 - 1, "\xff\xff\xff\xff\xff\x7f"},
		{1 << 42, "\x80\x80\x80\x80\x80\x80\x01"},
		{api.MaxNum - 1, "\xff\xff\xff\xff\xff\xff\x3f"},
		{api.MaxNum, "\x80\x80\x80\x80\x80\x80\x40"},
	} {
		if got, errno := Num(c.n); got != c.want || errno != api.OK {
			t.Errorf("Num(%d) = %x, %d; want %x", c.n, got, errno, c.want)
		}
		for _, behind := range []string{"", "\x00", tail} {
			if n, size, errno := GetNum(c.want + behind); n != c.n || size != len(c.want) || errno != api.OK {
				t.Errorf("GetNum(%x) = %d, %d, %d; want %d", c.want+behind, n, size, errno, c.n)
			}
		}
	}
}

// Promise 1.1.
func TestNumTooGreat(t *testing.T) {
	for _, n := range []uint64{api.MaxNum + 1, 1 << 49, 1 << 63, 1<<64 - 1} {
		if got, errno := Num(n); got != "" || errno != api.ErrRange {
			t.Errorf("Num(%d) = %x, %d; want ErrRange", n, got, errno)
		}
	}
}

// Promise 1.1.
func TestGetNumWrong(t *testing.T) {
	for _, c := range []struct {
		s    string
		want api.Errno
	}{
		{"", api.ErrShort},
		{"\x80", api.ErrShort},
		{"\xff\xff", api.ErrShort},
		{strings.Repeat("\x80", 6), api.ErrShort},
		{strings.Repeat("\xff", 6), api.ErrShort},
		{strings.Repeat("\x80", 7), api.ErrCode},
		{strings.Repeat("\xff", 7), api.ErrCode},
		{strings.Repeat("\x80", 7) + "\x01", api.ErrCode},
		{strings.Repeat("\xff", 1000), api.ErrCode},
		{"\x80\x00", api.ErrCode},
		{"\x80\x00\x01", api.ErrCode},
		{"\xff\x80\x00", api.ErrCode},
		{strings.Repeat("\x80", 6) + "\x00", api.ErrCode},
		{"\x81\x80\x80\x80\x80\x80\x40", api.ErrCode}, // MaxNum + 1
		{strings.Repeat("\x80", 6) + "\x41", api.ErrCode},
		{strings.Repeat("\xff", 6) + "\x7f", api.ErrCode},
	} {
		if n, size, errno := GetNum(c.s); n != 0 || size != 0 || errno != c.want {
			t.Errorf("GetNum(%x) = %d, %d, %d; want %d", c.s, n, size, errno, c.want)
		}
	}
}

// AllNum has no promise of its own: by it, other packages read numbers that stand in lists.
func TestAllNum(t *testing.T) {
	for _, n := range []uint64{0, 1, 127, 128, 300, api.MaxNum} {
		s, _ := Num(n)
		if got, errno := AllNum(s); got != n || errno != api.OK {
			t.Errorf("AllNum(%x) = %d, %d; want %d", s, got, errno, n)
		}
		for _, behind := range []string{"\x00", "\x01", tail} {
			if got, errno := AllNum(s + behind); got != 0 || errno != api.ErrCode {
				t.Errorf("AllNum(%x) = %d, %d; want ErrCode", s+behind, got, errno)
			}
		}
	}
	for s, want := range map[string]api.Errno{"": api.ErrShort, "\x80": api.ErrShort, "\x80\x00": api.ErrCode, strings.Repeat("\xff", 7): api.ErrCode} {
		if got, errno := AllNum(s); got != 0 || errno != want {
			t.Errorf("AllNum(%x) = %d, %d; want %d", s, got, errno, want)
		}
	}
}

// AllInt has no promise of its own: by it, other packages read numbers that have a bound.
func TestAllInt(t *testing.T) {
	for _, most := range []int{math.MinInt, -1, 0, 1, 63, 4096, 1 << 20, api.MaxNum, math.MaxInt} {
		for _, n := range []int{0, 1, 2, 63, 64, 4096, 4097, 1 << 20, 1<<20 + 1, 1<<32 + 1, api.MaxNum} {
			s, _ := Num(uint64(n))
			want, wantErrno := n, api.OK
			if n > most {
				want, wantErrno = 0, api.ErrRange
			}
			if got, errno := AllInt(s, most); got != want || errno != wantErrno {
				t.Errorf("AllInt(%x, %d) = %d, %d; want %d, %d", s, most, got, errno, want, wantErrno)
			}
			if got, errno := AllInt(s+"\x00", most); got != 0 || errno != api.ErrCode {
				t.Errorf("AllInt(%x, %d) = %d, %d; want ErrCode", s+"\x00", most, got, errno)
			}
		}
		for s, want := range map[string]api.Errno{"": api.ErrShort, "\x80": api.ErrShort, "\x80\x00": api.ErrCode, strings.Repeat("\xff", 7): api.ErrCode} {
			if got, errno := AllInt(s, most); got != 0 || errno != want {
				t.Errorf("AllInt(%x, %d) = %d, %d; want %d", s, most, got, errno, want)
			}
		}
	}
}

// Hash has no promise of its own: by it, other packages read hashes that stand in lists.
func TestHash(t *testing.T) {
	var want api.Hash
	for i := range want {
		want[i] = byte(i + 1)
	}
	right := string(want[:])
	if h, errno := Hash(right); h != want || errno != api.OK {
		t.Errorf("Hash = %x, %d; want %x", h, errno, want)
	}
	for _, s := range []string{"", "x", right[1:], right[:31], right + "\x00", right + right} {
		if h, errno := Hash(s); h != (api.Hash{}) || errno != api.ErrCode {
			t.Errorf("Hash of %d bytes = %x, %d; want ErrCode", len(s), h, errno)
		}
	}
}

// Promise 1.2.
func TestText(t *testing.T) {
	longest := strings.Repeat("x", api.MaxText)
	for _, c := range []struct{ text, want string }{
		{"", "\x00"},
		{"a", "\x01a"},
		{"\x00\xff", "\x02\x00\xff"},
		{longest[:127], "\x7f" + longest[:127]},
		{longest[:128], "\x80\x01" + longest[:128]},
		{longest, "\x80\x40" + longest},
	} {
		if got, errno := Text(c.text); got != c.want || errno != api.OK {
			t.Errorf("Text of %d bytes = %x, %d", len(c.text), got, errno)
		}
		for _, behind := range []string{"", "b", tail} {
			text, size, errno := GetText(c.want + behind)
			if text != c.text || size != len(c.want) || errno != api.OK {
				t.Errorf("GetText of %d bytes = %q, %d, %d", len(c.text), text, size, errno)
			}
		}
	}
	if got, errno := Text(longest + "x"); got != "" || errno != api.ErrLong {
		t.Errorf("Text of MaxText + 1 bytes = %d bytes, %d; want ErrLong", len(got), errno)
	}
}

// Promise 1.2.
func TestGetTextWrong(t *testing.T) {
	long := strings.Repeat("x", api.MaxText+1)
	for _, c := range []struct {
		s    string
		want api.Errno
	}{
		{"", api.ErrShort},
		{"\x80", api.ErrShort},
		{"\x80\x00", api.ErrCode},
		{"\xff\xff\xff\xff\xff\xff\x7f", api.ErrCode},
		{"\x01", api.ErrShort},
		{"\x03ab", api.ErrShort},
		{"\x80\x40" + long[:api.MaxText-1], api.ErrShort},
		{"\x81\x40", api.ErrLong}, // too long comes ahead of too few
		{"\x81\x40" + long, api.ErrLong},
		{"\x80\x80\x80\x80\x80\x80\x40", api.ErrLong},
	} {
		if text, size, errno := GetText(c.s); text != "" || size != 0 || errno != c.want {
			t.Errorf("GetText(%.10x..) = %q, %d, %d; want %d", c.s, text, size, errno, c.want)
		}
	}
}

// Promise 1.3.
func TestList(t *testing.T) {
	most := make([]string, api.MaxList)
	longest := strings.Repeat("x", api.MaxText)
	for _, c := range []struct {
		list []string
		want string
	}{
		{nil, "\x00"},
		{[]string{""}, "\x01\x00"},
		{[]string{"ab", ""}, "\x02\x02ab\x00"},
		{[]string{"", "ab"}, "\x02\x00\x02ab"},
		{[]string{"a", longest, "b"}, "\x03\x01a\x80\x40" + longest + "\x01b"},
		{most, "\x80\x02" + strings.Repeat("\x00", api.MaxList)},
	} {
		if got, errno := List(c.list...); got != c.want || errno != api.OK {
			t.Errorf("List of %d strings = %d bytes, %d", len(c.list), len(got), errno)
		}
		for _, behind := range []string{"", "\x00", tail} {
			l, size, errno := GetList(c.want + behind)
			if !slices.Equal(l, c.list) || size != len(c.want) || errno != api.OK {
				t.Errorf("GetList of %d strings = %d strings, %d, %d", len(c.list), len(l), size, errno)
			}
		}
		if l, errno := All(c.want); !slices.Equal(l, c.list) || errno != api.OK {
			t.Errorf("All of %d strings = %d strings, %d", len(c.list), len(l), errno)
		}
		if l, errno := All(c.want + "\x00"); l != nil || errno != api.ErrCode {
			t.Errorf("All with a byte behind = %d strings, %d; want ErrCode", len(l), errno)
		}
	}
}

// Promise 1.3.
func TestListTooLong(t *testing.T) {
	long := strings.Repeat("x", api.MaxText+1)
	for _, l := range [][]string{
		make([]string, api.MaxList+1),
		{long},
		{"a", "b", long},
		{long, "a"},
	} {
		if got, errno := List(l...); got != "" || errno != api.ErrLong {
			t.Errorf("List of %d strings = %d bytes, %d; want ErrLong", len(l), len(got), errno)
		}
	}
}

// Promise 1.3.
func TestGetListWrong(t *testing.T) {
	long := strings.Repeat("x", api.MaxText+1)
	for _, c := range []struct {
		s    string
		want api.Errno
	}{
		{"", api.ErrShort},
		{"\x80", api.ErrShort},
		{"\x80\x00", api.ErrCode},
		{strings.Repeat("\xff", 7), api.ErrCode},
		{"\x81\x02", api.ErrLong}, // too many come ahead of too few
		{"\x81\x02" + strings.Repeat("\x00", api.MaxList+1), api.ErrLong},
		{"\x80\x80\x80\x80\x80\x80\x40", api.ErrLong},
		{"\x01", api.ErrShort},
		{"\x02\x00", api.ErrShort},
		{"\x02\x02ab", api.ErrShort},
		{"\x02\x02ab\x01", api.ErrShort},
		{"\x02\x02ab\x80\x00", api.ErrCode},
		{"\x02\x80\x00\x81\x40", api.ErrCode},         // the first that is wrong tells
		{"\x02\x81\x40" + long + "\x80", api.ErrLong}, // so it does here
		{"\x03\x01a\x81\x40" + long + "\x00", api.ErrLong},
		{"\x80\x02" + strings.Repeat("\x00", api.MaxList-1), api.ErrShort},
	} {
		if l, size, errno := GetList(c.s); l != nil || size != 0 || errno != c.want {
			t.Errorf("GetList(%.10x..) = %q, %d, %d; want %d", c.s, l, size, errno, c.want)
		}
		if l, errno := All(c.s); l != nil || errno != c.want {
			t.Errorf("All(%.10x..) = %q, %d; want %d", c.s, l, errno, c.want)
		}
	}
}

// Promise 1.4.
func TestNewMemory(t *testing.T) {
	text := "the text of an argument"
	s, _ := Text(text)
	apart(t, "Text", text, s)
	got, _, _ := GetText(s)
	apart(t, "GetText", s, got)

	list := []string{text, "second", text}
	s, _ = List(list...)
	if !slices.Equal(list, []string{text, "second", text}) {
		t.Errorf("List changed its argument: %q", list)
	}
	apart(t, "List", text, s)
	l, _, _ := GetList(s)
	m, _ := All(s)
	for i := range l {
		apart(t, "GetList", s, l[i])
		apart(t, "All", s, m[i])
	}
	l[0] = "other"
	if again, _ := All(s); m[0] != text || again[0] != text {
		t.Errorf("two lists share memory: %q, %q", m, again)
	}
}

// apart fails a test if a result lies inside an argument's memory.
func apart(t *testing.T, call, argument, result string) {
	t.Helper()
	from := uintptr(unsafe.Pointer(unsafe.StringData(argument)))
	at := uintptr(unsafe.Pointer(unsafe.StringData(result)))
	if from <= at && at < from+uintptr(len(argument)) {
		t.Errorf("%s: the result lies in the argument's memory", call)
	}
}

// Promise 1.5.
func TestThereAndBack(t *testing.T) {
	source := rand.New(rand.NewSource(1))
	for range 2000 {
		n := source.Uint64() >> (16 + source.Intn(48))
		s, _ := Num(n)
		if got, size, errno := GetNum(s + tail); got != n || size != len(s) || errno != api.OK {
			t.Fatalf("number %d: %d, %d, %d", n, got, size, errno)
		}
		text := someText(source)
		s, _ = Text(text)
		if got, size, errno := GetText(s + tail); got != text || size != len(s) || errno != api.OK {
			t.Fatalf("text %x: %x, %d, %d", text, got, size, errno)
		}
		list := make([]string, source.Intn(5))
		for i := range list {
			list[i] = someText(source)
		}
		s, _ = List(list...)
		if got, size, errno := GetList(s + tail); !slices.Equal(got, list) || size != len(s) || errno != api.OK {
			t.Fatalf("list %x: %x, %d, %d", list, got, size, errno)
		}
	}
}

// someText is a string of some length, with one byte or with two ahead of it.
func someText(source *rand.Rand) string {
	b := make([]byte, source.Intn(200))
	source.Read(b)
	return string(b)
}

// Promise 1.5.
func TestBackAndThere(t *testing.T) {
	source := rand.New(rand.NewSource(2))
	for range 200000 {
		b := make([]byte, source.Intn(10))
		for i := range b {
			b[i] = []byte{0, 1, 2, 3, 0x7f, 0x80, 0x81, 0xff}[source.Intn(8)]
		}
		backAndThere(t, string(b))
	}
}

// Promise 1.5.
func FuzzBackAndThere(f *testing.F) {
	f.Add("\x02\x02ab\x00")
	f.Add("\x80\x80\x80\x80\x80\x80\x40")
	f.Fuzz(func(t *testing.T, s string) { backAndThere(t, s) })
}

// backAndThere fails a test if the encoding of what is decoded from s isn't what was consumed of s.
func backAndThere(t *testing.T, s string) {
	t.Helper()
	if n, size, errno := GetNum(s); errno == api.OK {
		if again, _ := Num(n); again != s[:size] {
			t.Fatalf("number in %x: %x", s, again)
		}
	}
	if text, size, errno := GetText(s); errno == api.OK {
		if again, _ := Text(text); again != s[:size] {
			t.Fatalf("text in %x: %x", s, again)
		}
	}
	if l, size, errno := GetList(s); errno == api.OK {
		if again, _ := List(l...); again != s[:size] {
			t.Fatalf("list in %x: %x", s, again)
		}
	}
}
