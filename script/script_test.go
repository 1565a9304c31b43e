package script

import (
	"fmt"
	"math"
	"math/rand"
	"slices"
	"strings"
	"testing"

	"palaver/api"
)

// The chapter's script, and the lines of its parts.
var (
	setup     = api.Setup{Servers: 3, High: 3, Size: 9000, Gap: 2}
	client    = api.Deed{Kind: api.DeedClient, Text: "hi"}
	fail      = api.Deed{Kind: api.DeedFail, Who: 1, N: 20, Bits: 255}
	setupText = "world 3 0 3 9000 2\n"
	example   = setupText + "client 0 6869\nfail 1 20 255\n"
)

// most is the greatest number of a line, and one more is too great.
const most = 1099511627776

// wantDeed is the line of a representable deed, by the library.
func wantDeed(d api.Deed) string {
	hex := fmt.Sprintf("%x", d.Text)
	if d.Text == "" {
		hex = "-"
	}
	switch d.Kind {
	case api.DeedClient:
		return fmt.Sprintf("client %d %s", d.Who, hex)
	case api.DeedTick:
		return fmt.Sprintf("tick %d", d.Who)
	case api.DeedGossip:
		return fmt.Sprintf("gossip %d", d.Who)
	case api.DeedHead:
		return fmt.Sprintf("head %d", d.Who)
	case api.DeedFail:
		return fmt.Sprintf("fail %d %d %d", d.Who, d.N, d.Bits)
	case api.DeedDeliver:
		return fmt.Sprintf("deliver %d", d.N)
	case api.DeedDrop:
		return fmt.Sprintf("drop %d", d.N)
	case api.DeedDouble:
		return fmt.Sprintf("double %d", d.N)
	case api.DeedInject:
		return "inject " + hex
	}
	return fmt.Sprintf("forge %d %d %s", d.Who, d.N, hex)
}

// wantText is the text of a representable script, by the library.
func wantText(c api.Setup, deeds ...api.Deed) string {
	s := fmt.Sprintf("world %d %d %d %d %d\n", c.Servers, c.Liars, c.High, c.Size, c.Gap)
	for _, d := range deeds {
		s += wantDeed(d) + "\n"
	}
	return s
}

// told is a deed with no more than the beginning of its text.
func told(d api.Deed) string {
	return fmt.Sprintf("{%d %d %d %.20q (%d bytes) %d}", d.Kind, d.Who, d.N, d.Text, len(d.Text), d.Bits)
}

// deeds are representable deeds of each kind, with edges of what may be.
func deeds() []api.Deed {
	var l []api.Deed
	numbers := []int{0, 1, 9, 10, 63, 255, 256, 100200, most - 1, most}
	texts := []string{"", "\x00", "-", "hi", "a b\n", "\xff\x00\x10", every(), strings.Repeat("\xab", api.MaxText-1), strings.Repeat("z", api.MaxText)}
	for _, n := range numbers {
		for _, kind := range []api.DeedKind{api.DeedTick, api.DeedGossip, api.DeedHead} {
			l = append(l, api.Deed{Kind: kind, Who: n})
		}
		for _, kind := range []api.DeedKind{api.DeedDeliver, api.DeedDrop, api.DeedDouble} {
			l = append(l, api.Deed{Kind: kind, N: n})
		}
		for _, bits := range []byte{0, 1, 9, 10, 99, 100, 128, 255} {
			l = append(l, api.Deed{Kind: api.DeedFail, Who: n, N: numbers[int(bits)%len(numbers)], Bits: bits})
		}
		for i, text := range texts {
			l = append(l, api.Deed{Kind: api.DeedClient, Who: n, Text: text})
			l = append(l, api.Deed{Kind: api.DeedForge, Who: n, N: numbers[i], Text: text})
		}
	}
	for _, text := range texts {
		l = append(l, api.Deed{Kind: api.DeedInject, Text: text})
	}
	return l
}

// every is a text with each byte.
func every() string {
	b := make([]byte, 256)
	for i := range b {
		b[i] = byte(i)
	}
	return string(b)
}

// wantLine fails, unless a deed has a line, and the line that deed.
func wantLine(t *testing.T, d api.Deed, want string) {
	t.Helper()
	if s, errno := Line(d); s != want || errno != api.OK {
		t.Errorf("Line(%s) = %.80q, %d; want %.80q", told(d), s, errno, want)
	}
	if back, errno := Parse(want); back != d || errno != api.OK {
		t.Errorf("Parse(%.80q) = %s, %d; want %s", want, told(back), errno, told(d))
	}
}

// noLine fails, unless Parse refuses a line.
func noLine(t *testing.T, line string) {
	t.Helper()
	if d, errno := Parse(line); d != (api.Deed{}) || errno != api.ErrCode {
		t.Errorf("Parse(%.80q) = %s, %d; want ErrCode", line, told(d), errno)
	}
}

// wantGet fails, unless a text is that of a script.
func wantGet(t *testing.T, text string, c api.Setup, l ...api.Deed) {
	t.Helper()
	x, got, at, errno := Get(text)
	if x != c || !slices.Equal(got, l) || at != 0 || errno != api.OK {
		t.Errorf("Get(%.80q) = %v, %d deeds, %d, %d; want %v, %d deeds", text, x, len(got), at, errno, c, len(l))
	}
}

// noGet fails, unless Get refuses a text at a line, with an error.
func noGet(t *testing.T, text string, line int, want api.Errno) {
	t.Helper()
	c, l, at, errno := Get(text)
	if c != (api.Setup{}) || l != nil || at != line || errno != want {
		t.Errorf("Get(%.80q) = %v, %d deeds, %d, %d; want line %d, error %d", text, c, len(l), at, errno, line, want)
	}
}

// Promise 31.1: Line and Parse, by lines written out by hand.
func TestLine(t *testing.T) {
	for _, c := range []struct {
		d    api.Deed
		want string
	}{
		{client, "client 0 6869"},
		{fail, "fail 1 20 255"},
		{api.Deed{Kind: api.DeedClient, Who: 7}, "client 7 -"},
		{api.Deed{Kind: api.DeedTick}, "tick 0"},
		{api.Deed{Kind: api.DeedTick, Who: 1}, "tick 1"},
		{api.Deed{Kind: api.DeedGossip, Who: 12}, "gossip 12"},
		{api.Deed{Kind: api.DeedHead, Who: most}, "head 1099511627776"},
		{api.Deed{Kind: api.DeedFail}, "fail 0 0 0"},
		{api.Deed{Kind: api.DeedFail, Who: 2, N: 3, Bits: 4}, "fail 2 3 4"},
		{api.Deed{Kind: api.DeedDeliver}, "deliver 0"},
		{api.Deed{Kind: api.DeedDeliver, N: 1023}, "deliver 1023"},
		{api.Deed{Kind: api.DeedDrop, N: 5}, "drop 5"},
		{api.Deed{Kind: api.DeedDouble, N: 6}, "double 6"},
		{api.Deed{Kind: api.DeedInject}, "inject -"},
		{api.Deed{Kind: api.DeedInject, Text: "\x00\x0f\xf0\xff"}, "inject 000ff0ff"},
		{api.Deed{Kind: api.DeedInject, Text: "-"}, "inject 2d"},
		{api.Deed{Kind: api.DeedForge, Who: 3, N: 4, Text: "xyz"}, "forge 3 4 78797a"},
		{api.Deed{Kind: api.DeedForge, Who: 0, N: 0}, "forge 0 0 -"},
	} {
		wantLine(t, c.d, c.want)
	}
}

// Promises 31.1, 31.3: each kind, with edges of numbers and texts.
func TestLineEdges(t *testing.T) {
	for _, d := range deeds() {
		wantLine(t, d, wantDeed(d))
	}
}

// Promise 31.1: what is not representable has no line.
func TestLineWrong(t *testing.T) {
	long := strings.Repeat("x", api.MaxText+1)
	wrong := []api.Deed{{}, {Kind: api.DeedCount}, {Kind: api.DeedCount + 1}, {Kind: 255}, {Kind: api.DeedNone, Who: 1}}
	for kind := api.DeedClient; kind < api.DeedCount; kind++ {
		for _, n := range []int{math.MinInt, -most, -1, most + 1, 1 << 48, math.MaxInt} {
			wrong = append(wrong, api.Deed{Kind: kind, Who: n}, api.Deed{Kind: kind, N: n})
		}
		wrong = append(wrong, api.Deed{Kind: kind, Text: long})
	}
	for _, d := range wrong {
		if s, errno := Line(d); s != "" || errno != api.ErrForm {
			t.Errorf("Line(%s) = %.80q, %d; want ErrForm", told(d), s, errno)
		}
	}
}

// Promise 31.1: a field that a line does not contain must be zero.
func TestLineOtherFields(t *testing.T) {
	has := map[api.DeedKind]string{ // the fields of the lines: Who, N, Text and Bits
		api.DeedClient: "WT", api.DeedTick: "W", api.DeedGossip: "W", api.DeedHead: "W", api.DeedFail: "WNB",
		api.DeedDeliver: "N", api.DeedDrop: "N", api.DeedDouble: "N", api.DeedInject: "T", api.DeedForge: "WNT",
	}
	for kind, fields := range has {
		for _, c := range []struct {
			field string
			d     api.Deed
		}{
			{"W", api.Deed{Kind: kind, Who: 1}}, {"W", api.Deed{Kind: kind, Who: most}},
			{"N", api.Deed{Kind: kind, N: 1}}, {"N", api.Deed{Kind: kind, N: most}},
			{"T", api.Deed{Kind: kind, Text: "x"}}, {"T", api.Deed{Kind: kind, Text: "\x00"}},
			{"B", api.Deed{Kind: kind, Bits: 1}}, {"B", api.Deed{Kind: kind, Bits: 255}},
		} {
			want := api.ErrForm
			if strings.Contains(fields, c.field) {
				want = api.OK
			}
			if _, errno := Line(c.d); errno != want {
				t.Errorf("Line(%s): %d; want %d", told(c.d), errno, want)
			}
		}
	}
}

// Promise 31.1: what is no line.
func TestParseWrong(t *testing.T) {
	for _, line := range []string{
		"", " ", "-", "0", "\n", "none", "none 0", "world 3 0 3 9000 2", "Tick 0", "TICK 0", "tic 0", "ticks 0", "tick0", "6869",
		"tick", "tick ", "tick  0", " tick 0", "tick 0 ", "tick\t0", "tick 0\n", "tick 0\r", "tick 0\ntick 0", "\ntick 0", "tick 0\x00", "tick -", "tick 6869x",
		"tick 00", "tick 01", "tick 007", "tick -0", "tick +0", "tick -1", "tick +1", "tick 1_0", "tick 0x1", "tick 1e3", "tick 1.0", "tick a", "tick \xff", "tick ١",
		"tick 1099511627777", "tick 9223372036854775807", "tick 9223372036854775808", "tick 18446744073709551616", "tick 18446744073709551617", "tick " + strings.Repeat("9", 1000), "tick 0" + strings.Repeat("0", 1000),
		"tick 1 0", "tick 1 2", "tick 1 -", "gossip", "gossip 1 0", "head", "head 1 0",
		"client", "client 0", "client 0 ", "client -", "client - -", "client 6869 0", "client 0 0", "client 0 6869 0", "client 0 - ", "client 0 - -",
		"client 0 686", "client 0 6g", "client 0 g6", "client 0 6A", "client 0 A6", "client 0 --", "client 0 -6", "client 0 6-", "client 0 68 69", "client 0 0x", "client 0 \n6", "client 1099511627777 -",
		"fail", "fail 1", "fail 1 20", "fail 1 20 ", "fail 1 20 -", "fail 1 20 ff", "fail 1 20 256", "fail 1 20 257", "fail 1 20 511", "fail 1 20 512", "fail 1 20 4294967296", "fail 1 20 1099511627776", "fail 1 20 01", "fail 1 20 -1", "fail 1 20 255 0", "fail 1 1099511627777 0", "fail 1099511627777 1 0", "fail  20 255",
		"deliver", "deliver ", "deliver -", "deliver 01", "deliver 0 0", "deliver 1099511627777", "drop", "drop 0 0", "double", "double 0 0",
		"inject", "inject ", "inject 0", "inject -- ", "inject - -", "inject 0 -", "inject  ", "inject 6869 ", "inject \xff\xff",
		"forge", "forge 0", "forge 0 0", "forge 0 0 ", "forge 0 0 0", "forge - 0 0", "forge 0 - -", "forge 0 0 - 0", "forge 0 1099511627777 -", "forge 0 01 -",
		"inject " + strings.Repeat("00", api.MaxText+1), "client 0 " + strings.Repeat("61", api.MaxText) + "6", "forge 0 0 " + strings.Repeat("00", 1<<20),
	} {
		noLine(t, line)
	}
}

// Promise 31.1: only the two digits 0 to 9 and a to f are a byte.
func TestParseDigits(t *testing.T) {
	const hex = "0123456789abcdef"
	for first := range 256 {
		for second := range 256 {
			line := "inject " + string([]byte{byte(first), byte(second)})
			high, low := strings.IndexByte(hex, byte(first)), strings.IndexByte(hex, byte(second))
			if high < 0 || low < 0 {
				noLine(t, line)
				continue
			}
			wantLine(t, api.Deed{Kind: api.DeedInject, Text: string([]byte{byte(16*high + low)})}, line)
		}
	}
}

// changes are the texts that a text becomes by one byte that is taken out, put in or replaced.
func changes(s string) []string {
	var l []string
	for i := range len(s) + 1 {
		for _, c := range " -0159af\nAx\x00" {
			l = append(l, s[:i]+string(c)+s[i:])
			if i < len(s) {
				l = append(l, s[:i]+string(c)+s[i+1:])
			}
		}
		if i < len(s) {
			l = append(l, s[:i]+s[i+1:], s[:i], s[i:])
		}
	}
	return l
}

// Promise 31.3: what Parse accepts is the line of its result.
func TestParseAccepts(t *testing.T) {
	taken := 0
	for _, d := range deeds() {
		if len(d.Text) > 20 {
			continue
		}
		for _, line := range changes(wantDeed(d)) {
			got, errno := Parse(line)
			if errno == api.OK {
				taken++
			}
			back, wrong := Line(got)
			if errno == api.OK && (back != line || wrong != api.OK) || errno != api.OK && (errno != api.ErrCode || got != api.Deed{}) {
				t.Fatalf("Parse(%q) = %s, %d, and its line is %q", line, told(got), errno, back)
			}
		}
	}
	if taken < 1000 {
		t.Errorf("only %d lines that were taken", taken)
	}
}

// Promises 31.1, 31.3: the chapter's script, there and back.
func TestScript(t *testing.T) {
	s, errno := Put(setup, client, fail)
	if s != example || errno != api.OK {
		t.Errorf("Put = %q, %d; want %q", s, errno, example)
	}
	wantGet(t, example, setup, client, fail)
	wantGet(t, "world 3 0 3 9000 2\nclient 0 6869\ndeliver 0\n", setup, client, api.Deed{Kind: api.DeedDeliver})
	noGet(t, example+"tick 01\n", 4, api.ErrCode)
	noGet(t, "", 1, api.ErrCode)
}

// Promises 31.1, 31.3: setups with edges of numbers.
func TestSetup(t *testing.T) {
	numbers := []int{0, 1, 8, 10, 255, 9000, 1 << 20, most - 1, most}
	for i, n := range numbers {
		for j, m := range numbers {
			c := api.Setup{Servers: n, Liars: uint(m), High: numbers[(i+j)%len(numbers)], Size: numbers[(i+2*j)%len(numbers)], Gap: int64(numbers[(2*i+j)%len(numbers)])}
			if s, errno := Put(c); s != wantText(c) || errno != api.OK {
				t.Errorf("Put(%v) = %q, %d; want %q", c, s, errno, wantText(c))
			}
			wantGet(t, wantText(c), c)
		}
	}
	// A setup need not be one of a world.
	wantGet(t, "world 0 0 0 0 0\n", api.Setup{})
	wantGet(t, "world 1 2 3 4 5\n", api.Setup{Servers: 1, Liars: 2, High: 3, Size: 4, Gap: 5})
}

// Promise 31.1: what is not representable has no text.
func TestPutWrong(t *testing.T) {
	var wrong []api.Setup
	for _, n := range []int{math.MinInt, -most, -1, most + 1, 1 << 48, math.MaxInt} {
		wrong = append(wrong, api.Setup{Servers: n}, api.Setup{High: n}, api.Setup{Size: n}, api.Setup{Gap: int64(n)})
	}
	for _, n := range []uint{most + 1, 1 << 48, 1<<63 - 1, 1 << 63, 1<<63 + 1, math.MaxUint - most, math.MaxUint} {
		wrong = append(wrong, api.Setup{Liars: n})
	}
	for _, c := range wrong {
		if s, errno := Put(c, client); s != "" || errno != api.ErrForm {
			t.Errorf("Put(%v) = %q, %d; want ErrForm", c, s, errno)
		}
	}
	for _, d := range []api.Deed{{}, {Kind: api.DeedCount}, {Kind: api.DeedTick, N: 1}, {Kind: api.DeedTick, Who: -1}, {Kind: api.DeedInject, Text: strings.Repeat("x", api.MaxText+1)}} {
		for _, l := range [][]api.Deed{{d}, {d, client}, {client, d}, {client, d, fail}} {
			if s, errno := Put(setup, l...); s != "" || errno != api.ErrForm {
				t.Errorf("Put(%s) = %q, %d; want ErrForm", told(d), s, errno)
			}
		}
	}
}

// Promise 31.1: a script has at most MaxDeeds deeds, and Put says so ahead of all else.
func TestPutLong(t *testing.T) {
	l := slices.Repeat([]api.Deed{{Kind: api.DeedTick, Who: 2}}, api.MaxDeeds)
	text := setupText + strings.Repeat("tick 2\n", api.MaxDeeds)
	if s, errno := Put(setup, l...); s != text || errno != api.OK {
		t.Errorf("Put of MaxDeeds deeds = %d bytes, %d; want %d bytes", len(s), errno, len(text))
	}
	wantGet(t, text, setup, l...)
	for _, c := range []api.Setup{setup, {Servers: -1}} {
		for _, d := range []api.Deed{fail, {}, {Kind: api.DeedTick, N: 1}} {
			if s, errno := Put(c, append(l, d)...); s != "" || errno != api.ErrLong {
				t.Errorf("Put of one more = %d bytes, %d; want ErrLong", len(s), errno)
			}
		}
	}
	if _, errno := Put(setup, append(l[1:], api.Deed{})...); errno != api.ErrForm {
		t.Errorf("Put of MaxDeeds deeds, the last one zero: %d; want ErrForm", errno)
	}
}

// Promise 31.1: which line is wrong, and why, where there are as many deeds as may be.
func TestGetLong(t *testing.T) {
	text := setupText + strings.Repeat("tick 2\n", api.MaxDeeds)
	behind := api.MaxDeeds + 2
	for _, c := range []struct {
		text string
		line int
		want api.Errno
	}{
		{text + "tick 2\n", behind, api.ErrLong},
		{text + "inject -\n", behind, api.ErrLong},
		{text + "tick 2\ntick 02\n", behind, api.ErrLong},
		{text + "tick 2\ntick 2", behind, api.ErrLong},
		{text + "tick 2", behind, api.ErrCode}, // without a line feed, it is no line
		{text + "tick 02\n", behind, api.ErrCode},
		{text + "\n", behind, api.ErrCode},
		{text + setupText, behind, api.ErrCode},
		{text + " ", behind, api.ErrCode},
		{text[:len(text)-1], behind - 1, api.ErrCode},
		{strings.Replace(text, "tick 2\n", "tick 02\n", 1) + "tick 2\n", 2, api.ErrCode},
		{"x" + text + "tick 2\n", 1, api.ErrCode},
	} {
		noGet(t, c.text, c.line, c.want)
	}
}

// Promise 31.1: which line is wrong.
func TestGetWrong(t *testing.T) {
	for _, text := range []string{
		"", " ", "\n", "\n\n", "world", "world\n", "world \n", "world 3 0 3 9000\n", "world 3 0 3 9000 \n", "world 3 0 3 9000 2 \n", "world 3 0 3 9000 2 0\n", " world 3 0 3 9000 2\n", "world  3 0 3 9000 2\n", "world 3 0 3  9000 2\n",
		"world 3 0 3 9000 2", "world 3 0 3 9000 2\r\n", "World 3 0 3 9000 2\n", "worlds 3 0 3 9000 2\n", "world\t3 0 3 9000 2\n", "world 3\n0 3 9000 2\n", "world3 0 3 9000 2\n", "\nworld 3 0 3 9000 2\n",
		"world 03 0 3 9000 2\n", "world 3 00 3 9000 2\n", "world 3 0 03 9000 2\n", "world 3 0 3 09000 2\n", "world 3 0 3 9000 02\n",
		"world -1 0 3 9000 2\n", "world 3 -1 3 9000 2\n", "world 3 0 -1 9000 2\n", "world 3 0 3 -1 2\n", "world 3 0 3 9000 -1\n", "world +3 0 3 9000 2\n", "world - 0 3 9000 2\n",
		"world 1099511627777 0 3 9000 2\n", "world 3 1099511627777 3 9000 2\n", "world 3 0 1099511627777 9000 2\n", "world 3 0 3 1099511627777 2\n", "world 3 0 3 9000 1099511627777\n", "world 18446744073709551619 0 3 9000 2\n",
		"tick 0\n", "tick 0\nworld 3 0 3 9000 2\n", "client 0 6869\n", "3 0 3 9000 2\n",
	} {
		noGet(t, text, 1, api.ErrCode)
		noGet(t, text+" \ntick 01\n", 1, api.ErrCode)
	}
	for _, line := range []string{"", " ", "tick 01", "tick 0 ", "tick 0\r", "tick", "world 3 0 3 9000 2", "fail 1 20 256", "x", "tick 1099511627777", "client 0 6A"} {
		noGet(t, setupText+line+"\n", 2, api.ErrCode)
		noGet(t, setupText+line+"\ntick 0\n", 2, api.ErrCode)
		noGet(t, example+line+"\n", 4, api.ErrCode)
		noGet(t, example+line+"\n"+line+"\n", 4, api.ErrCode)
		noGet(t, example+"tick 0\n"+line+"\ntick 0\n", 5, api.ErrCode)
	}
	noGet(t, setupText+"tick 0", 2, api.ErrCode)
	noGet(t, setupText+"t", 2, api.ErrCode)
	noGet(t, example[:len(example)-1], 3, api.ErrCode)
	noGet(t, example+"tick 0", 4, api.ErrCode)
	noGet(t, example+"\x00", 4, api.ErrCode)
}

// Promise 31.3: what Get accepts is the text of its result.
func TestGetAccepts(t *testing.T) {
	taken := 0
	for _, text := range changes(example + "forge 3 4 78\ninject -\ndouble 10\n") {
		c, l, at, errno := Get(text)
		if errno != api.OK {
			noGet(t, text, at, api.ErrCode)
			if at < 1 || at > 1+strings.Count(text, "\n") {
				t.Errorf("Get(%q): the line %d is wrong", text, at)
			}
			continue
		}
		taken++
		if s, wrong := Put(c, l...); s != text || wrong != api.OK {
			t.Fatalf("Get(%q) has the text %q, %d", text, s, wrong)
		}
	}
	if taken < 50 {
		t.Errorf("only %d texts that were taken", taken)
	}
}

// Promise 31.3: scripts at random, there and back.
func TestThereAndBack(t *testing.T) {
	all := deeds()
	r := rand.New(rand.NewSource(31))
	for range 300 {
		c := api.Setup{Servers: r.Intn(9), Liars: uint(r.Intn(256)), High: r.Intn(8), Size: r.Intn(most + 1), Gap: r.Int63n(most + 1)}
		var l []api.Deed
		for range r.Intn(12) {
			l = append(l, all[r.Intn(len(all))])
		}
		before := slices.Clone(l)
		s, errno := Put(c, l...)
		if s != wantText(c, l...) || errno != api.OK {
			t.Fatalf("Put(%v, %d deeds) = %.200q, %d", c, len(l), s, errno)
		}
		if !slices.Equal(l, before) {
			t.Fatal("Put changed what it was given")
		}
		wantGet(t, s, c, l...)
	}
}

// Promise 31.2: no deeds of two answers share memory.
func TestNewMemory(t *testing.T) {
	_, a, _, _ := Get(example)
	_, b, _, _ := Get(example)
	a[0], a[1] = fail, client
	if !slices.Equal(b, []api.Deed{client, fail}) {
		t.Errorf("the deeds of one answer changed with those of another one: %v", b)
	}
}
