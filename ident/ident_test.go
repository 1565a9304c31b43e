package ident

import (
	"math"
	"math/rand"
	"regexp"
	"slices"
	"strconv"
	"strings"
	"testing"
	"unsafe"

	"palaver/api"
)

// inNames are the bytes that may stand in a name.
const inNames = "abcdefghijklmnopqrstuvwxyz0123456789_-"

// pattern is what an identifier's text looks like: another telling of the chapter's words.
var pattern = regexp.MustCompile(`\A([@!])([a-z0-9_-]{1,16}):(0|[1-9]|[1-5][0-9]|6[0-3])\z`)

// known are identifiers with their texts.
var known = []struct {
	text  string
	ident api.Ident
}{
	{"@ann:3", api.Ident{Kind: api.IdentUser, Name: "ann", Server: 3}},
	{"!hall:0", api.Ident{Kind: api.IdentRoom, Name: "hall", Server: 0}},
	{"@hall:0", api.Ident{Kind: api.IdentUser, Name: "hall", Server: 0}},
	{"!ann:3", api.Ident{Kind: api.IdentRoom, Name: "ann", Server: 3}},
	{"@a:0", api.Ident{Kind: api.IdentUser, Name: "a", Server: 0}},
	{"@0:9", api.Ident{Kind: api.IdentUser, Name: "0", Server: 9}},
	{"!_:10", api.Ident{Kind: api.IdentRoom, Name: "_", Server: 10}},
	{"!-:62", api.Ident{Kind: api.IdentRoom, Name: "-", Server: 62}},
	{"@--__00zz:63", api.Ident{Kind: api.IdentUser, Name: "--__00zz", Server: 63}},
	{"@abcdefghijklmno:63", api.Ident{Kind: api.IdentUser, Name: "abcdefghijklmno", Server: 63}},
	{"@abcdefghijklmnop:63", api.Ident{Kind: api.IdentUser, Name: "abcdefghijklmnop", Server: 63}},
	{"!0123456789_-0123:1", api.Ident{Kind: api.IdentRoom, Name: "0123456789_-0123", Server: 1}},
}

// noTexts are texts of no identifier.
func noTexts() []string {
	return []string{
		"", "@", "!", ":", "@:", "!:0", "@:3", "@ann", "@ann:", "ann:3", "ann", "3", ":3", "@ann3",
		"#ann:3", "$ann:3", "*ann:3", "\x00ann:3", "A@ann:3", " @ann:3", "@@ann:3", "@!ann:3", "!@ann:3", "!!hall:0", "\ufeff@ann:3",
		"@ann:03", "@ann:00", "@ann:003", "!hall:00", "@ann:063", "@ann:64", "!hall:64", "@ann:65", "@ann:99", "@ann:100", "@ann:630",
		"@ann:-1", "@ann:-0", "@ann:+3", "@ann:+0", "@ann:0x3", "@ann:3.0", "@ann:1e1", "@ann:1_0", "@ann:\u0663",
		"@ann: 3", "@ann:3 ", "@ann:3\n", "@ann:3\x00", "@ann:3:", "@ann:3:3", "@ann:a", "@ann::3", "@a:b:3", "@ann:\x03", "@ann:three",
		"@ann:4294967299", "@ann:18446744073709551619", "@ann:9223372036854775808", "@ann:" + strings.Repeat("9", 1000), "@ann:" + strings.Repeat("0", 1000) + "3",
		"@Ann:3", "@aNn:3", "@ANN:3", "@a n:3", "@ ann:3", "@ann :3", "@a.b:3", "@a/b:3", "@a@b:3", "@a!b:3", "@a+b:3", "@a\x00b:3", "@\xff:3", "@\u00e4:3", "@a\u0301:3", "@\u0430:3", "@a\n:3",
		"@abcdefghijklmnopq:3", "!abcdefghijklmnopq:3", "@" + strings.Repeat("a", 32) + ":3", "@" + strings.Repeat("a", 1<<20) + ":3",
		strings.Repeat("@ann:3", 2), strings.Repeat("@", 1<<20), strings.Repeat(":", 1<<20),
	}
}

// wantText fails a test unless Text answers this.
func wantText(t *testing.T, i api.Ident, want string, wantErrno api.Errno) {
	t.Helper()
	if got, errno := Text(i); got != want || errno != wantErrno {
		t.Errorf("Text(%.40q of kind %d, server %d) = %q, %d; want %q, %d", i.Name, i.Kind, i.Server, got, errno, want, wantErrno)
	}
}

// wantParse fails a test unless Parse, User and Room answer of a text what the pattern tells.
func wantParse(t *testing.T, text string) {
	t.Helper()
	want, ok := byPattern(text)
	wantErrno := api.OK
	if !ok {
		wantErrno = api.ErrCode
	}
	if got, errno := Parse(text); got != want || errno != wantErrno {
		t.Errorf("Parse(%.60q) = %v, %d; want %v, %d", text, got, errno, want, wantErrno)
	}
	wantServer(t, "User", text, User, want, want.Kind == api.IdentUser)
	wantServer(t, "Room", text, Room, want, want.Kind == api.IdentRoom)
}

// wantServer fails a test unless a call answers of a text the identifier's server if it is of the call's kind, and nothing otherwise.
func wantServer(t *testing.T, name, text string, call func(string) (int, bool), want api.Ident, ofKind bool) {
	t.Helper()
	server := 0
	if ofKind {
		server = want.Server
	}
	if got, is := call(text); got != server || is != ofKind {
		t.Errorf("%s(%.60q) = %d, %t; want %d, %t", name, text, got, is, server, ofKind)
	}
}

// byPattern is the identifier with a text, if there is one, by the pattern.
func byPattern(text string) (api.Ident, bool) {
	parts := pattern.FindStringSubmatch(text)
	if parts == nil {
		return api.Ident{}, false
	}
	kind := api.IdentUser
	if parts[1] == "!" {
		kind = api.IdentRoom
	}
	server, _ := strconv.Atoi(parts[3])
	return api.Ident{Kind: kind, Name: parts[2], Server: server}, true
}

// Promise 11.1: the chapter's examples.
func TestExamples(t *testing.T) {
	wantText(t, api.Ident{Kind: api.IdentUser, Name: "ann", Server: 3}, "@ann:3", api.OK)
	hall := api.Ident{Kind: api.IdentRoom, Name: "hall"}
	if got, errno := Parse("!hall:0"); got != hall || errno != api.OK {
		t.Errorf("Parse of the hall = %v, %d", got, errno)
	}
	if got, errno := Parse("@ann:03"); got != (api.Ident{}) || errno != api.ErrCode {
		t.Errorf("Parse of @ann:03 = %v, %d", got, errno)
	}
	if server, is := User("@ann:3"); server != 3 || !is {
		t.Errorf("User of @ann:3 = %d, %t", server, is)
	}
	if server, is := Room("@ann:3"); server != 0 || is {
		t.Errorf("Room of @ann:3 = %d, %t", server, is)
	}
}

// Promise 11.1.
func TestKnown(t *testing.T) {
	for _, c := range known {
		wantText(t, c.ident, c.text, api.OK)
		if got, errno := Parse(c.text); got != c.ident || errno != api.OK {
			t.Errorf("Parse(%q) = %v, %d; want %v", c.text, got, errno, c.ident)
		}
		wantServer(t, "User", c.text, User, c.ident, c.ident.Kind == api.IdentUser)
		wantServer(t, "Room", c.text, Room, c.ident, c.ident.Kind == api.IdentRoom)
	}
}

// Promise 11.1: Text refuses what is not valid.
func TestTextWrong(t *testing.T) {
	wantText(t, api.Ident{}, "", api.ErrForm)
	for kind := range 256 {
		if kind := api.IdentKind(kind); kind != api.IdentUser && kind != api.IdentRoom {
			wantText(t, api.Ident{Kind: kind, Name: "ann", Server: 3}, "", api.ErrForm)
		}
	}
	for _, server := range []int{-1, 64, 65, 100, 256, 259, 1<<32 + 3, math.MaxInt, math.MinInt, math.MinInt + 3} {
		wantText(t, api.Ident{Kind: api.IdentUser, Name: "ann", Server: server}, "", api.ErrForm)
		wantText(t, api.Ident{Kind: api.IdentRoom, Name: "hall", Server: server}, "", api.ErrForm)
	}
	for _, name := range []string{
		"", "abcdefghijklmnopq", strings.Repeat("a", 1<<20), "Ann", "aNN", "a b", " ", "ann ", "ann:3", ":", "@ann", "a.b", "a\x00", "\x00", "\xff", "\u00e4", "a\u0301", "\u0430",
	} {
		wantText(t, api.Ident{Kind: api.IdentUser, Name: name, Server: 3}, "", api.ErrForm)
		wantText(t, api.Ident{Kind: api.IdentRoom, Name: name}, "", api.ErrForm)
	}
}

// Promise 11.1: Parse, User and Room refuse what is no identifier's text.
func TestParseWrong(t *testing.T) {
	for _, text := range noTexts() {
		if got, errno := Parse(text); got != (api.Ident{}) || errno != api.ErrCode {
			t.Errorf("Parse(%.60q) = %v, %d; want ErrCode", text, got, errno)
		}
		wantParse(t, text)
	}
}

// Promise 11.1: each byte, first, last or alone in a name.
func TestNameBytes(t *testing.T) {
	for b := range 256 {
		c := string([]byte{byte(b)})
		for _, name := range []string{c, c + "nn", "an" + c, "a" + c + "n", strings.Repeat("a", api.MaxName-1) + c} {
			for _, kind := range []api.IdentKind{api.IdentUser, api.IdentRoom} {
				i := api.Ident{Kind: kind, Name: name, Server: 7}
				text := string("@!"[kind-1]) + name + ":7"
				if strings.Contains(inNames, c) {
					wantText(t, i, text, api.OK)
				} else {
					wantText(t, i, "", api.ErrForm)
				}
				wantParse(t, text)
			}
		}
	}
}

// Promise 11.1: each length of a name.
func TestNameLengths(t *testing.T) {
	for size := range 40 {
		name := strings.Repeat("n", size)
		want, errno := "", api.ErrForm
		if 1 <= size && size <= api.MaxName {
			want, errno = "@"+name+":63", api.OK
		}
		wantText(t, api.Ident{Kind: api.IdentUser, Name: name, Server: 63}, want, errno)
		wantParse(t, "@"+name+":63")
	}
}

// Promise 11.1: each byte as a mark, and each as a text's only one.
func TestMarks(t *testing.T) {
	for b := range 256 {
		wantParse(t, string([]byte{byte(b)}))
		wantParse(t, string([]byte{byte(b)})+"ann:3")
	}
}

// Promise 11.1: servers about the greatest, with signs and zeros ahead of them.
func TestServers(t *testing.T) {
	for server := -200; server <= 2000; server++ {
		digits := strconv.Itoa(server)
		for _, text := range []string{digits, "0" + digits, "+" + digits, "-" + digits, " " + digits, digits + "0", digits + " "} {
			wantParse(t, "@ann:"+text)
			wantParse(t, "!hall:"+text)
		}
		i := api.Ident{Kind: api.IdentUser, Name: "ann", Server: server}
		if 0 <= server && server <= api.MaxServer {
			wantText(t, i, "@ann:"+digits, api.OK)
		} else {
			wantText(t, i, "", api.ErrForm)
		}
	}
}

// Promise 11.2: all servers and kinds, with some names; no two identifiers have one text.
func TestThereAndBack(t *testing.T) {
	names := []string{"a", "ann", "bob", "0", "03", "-", "_", "hall", "abcdefghijklmnop", "----------------"}
	texts := map[string]api.Ident{}
	for server := range api.MaxServer + 1 {
		for _, name := range names {
			for _, kind := range []api.IdentKind{api.IdentUser, api.IdentRoom} {
				i := api.Ident{Kind: kind, Name: name, Server: server}
				text, errno := Text(i)
				if errno != api.OK {
					t.Fatalf("Text(%v) = %d", i, errno)
				}
				if other, is := texts[text]; is {
					t.Fatalf("%v and %v have the text %q", i, other, text)
				}
				texts[text] = i
				if back, errno := Parse(text); back != i || errno != api.OK {
					t.Fatalf("Parse(%q) = %v, %d; want %v", text, back, errno, i)
				}
			}
		}
	}
}

// Promises 11.1 and 11.2: texts that are one byte away from an identifier's.
func TestOneByteAway(t *testing.T) {
	for _, c := range known {
		for at := range len(c.text) + 1 {
			for b := range 256 {
				away := c.text[:at] + string([]byte{byte(b)})
				backAndThere(t, away+c.text[at:])
				if at < len(c.text) {
					backAndThere(t, away+c.text[at+1:])
				}
			}
			backAndThere(t, c.text[:at])
			backAndThere(t, c.text[at:])
			if at < len(c.text) {
				backAndThere(t, c.text[:at]+c.text[at+1:])
			}
		}
	}
}

// Promise 11.2: texts of a mark, a name, a colon and a server, of which each may be wrong.
func TestBackAndThere(t *testing.T) {
	source := rand.New(rand.NewSource(1))
	pick := func(texts ...string) string { return texts[source.Intn(len(texts))] }
	accepted := 0
	for range 50000 {
		mark := pick("@", "!", "@", "!", "", "#", "@!")
		colon := pick(":", ":", ":", ":", "", "::", " ")
		server := pick("", "0", "+", "-") + strconv.Itoa(source.Intn(100))
		if backAndThere(t, mark+someName(source)+colon+pick(server, server[len(server)-1:])) {
			accepted++
		}
	}
	if accepted < 5000 {
		t.Errorf("only %d texts were accepted", accepted)
	}
}

// someName is a name of some length, in which a byte may be wrong.
func someName(source *rand.Rand) string {
	b := make([]byte, source.Intn(api.MaxName+3))
	for i := range b {
		b[i] = inNames[source.Intn(len(inNames))]
	}
	if len(b) > 0 && source.Intn(4) == 0 {
		b[source.Intn(len(b))] = byte(source.Intn(256))
	}
	return string(b)
}

// Promise 11.2.
func FuzzBackAndThere(f *testing.F) {
	for _, c := range known {
		f.Add(c.text)
	}
	for _, text := range slices.DeleteFunc(noTexts(), func(text string) bool { return len(text) > 100 }) {
		f.Add(text)
	}
	f.Fuzz(func(t *testing.T, text string) { backAndThere(t, text) })
}

// backAndThere fails a test if Parse takes another text than the pattern, or one that is not the Text of what it answers; it tells whether Parse took it.
func backAndThere(t *testing.T, text string) bool {
	t.Helper()
	wantParse(t, text)
	i, errno := Parse(text)
	if errno == api.OK {
		wantText(t, i, text, api.OK)
	}
	return errno == api.OK
}

// Promise 11.1, by the rule that an answer is new memory.
func TestNewMemory(t *testing.T) {
	text := strings.Clone("@abcdefgh:63")
	i, errno := Parse(text)
	if errno != api.OK {
		t.Fatalf("Parse(%q) = %d", text, errno)
	}
	apart(t, "Parse", text, i.Name)
	again, _ := Text(i)
	apart(t, "Text", i.Name, again)
	apart(t, "Text", text, again)
}

// apart fails a test if a result lies inside an argument's memory.
func apart(t *testing.T, call, argument, result string) {
	t.Helper()
	from := uintptr(unsafe.Pointer(unsafe.StringData(argument)))
	at := uintptr(unsafe.Pointer(unsafe.StringData(result)))
	if from <= at && at < from+uintptr(len(argument)) {
		t.Errorf("%s: the result lies in the argument's memory", call)
	}
}
