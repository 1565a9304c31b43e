package event

import (
	"encoding/binary"
	"fmt"
	"math"
	"math/rand"
	"slices"
	"strings"
	"testing"
	"unsafe"

	"palaver/api"
)

// hiBytes is the encoding of the event hi, written out by hand.
const hiBytes = "\x06" + "\x07!hall:0" + "\x06@ann:0" + "\x07message" + "\x00" + "\x02hi" + "\x01\x07"

// hi is the chapter's event.
var hi = api.Event{Room: "!hall:0", Sender: "@ann:0", Kind: api.EventMessage, Body: "hi", Nonce: 7}

// kinds are the kinds with their words, in their order, and whether they are state kinds.
var kinds = []struct {
	kind  api.EventKind
	word  string
	state bool
}{
	{api.EventCreate, "create", true},
	{api.EventMember, "member", true},
	{api.EventPower, "power", true},
	{api.EventRule, "rule", true},
	{api.EventName, "name", true},
	{api.EventMessage, "message", false},
	{api.EventRedact, "redact", false},
	{api.EventHandover, "handover", true},
}

// noUsers and noRooms are texts of no user and of no room.
var (
	noUsers = []string{"", "@", "ann", "ann:0", "!ann:0", "!hall:0", "@ann", "@ann:", "@ann:00", "@ann:64", "@ann:-1", "@Ann:0", "@ann:0 ", "@abcdefghijklmnopq:0", "@ann:0@ann:0", "@a\x00:0"}
	noRooms = []string{"", "!", "hall", "hall:0", "@hall:0", "@ann:0", "!hall", "!hall:", "!hall:00", "!hall:64", "!hall:-1", "!Hall:0", "!hall:0 ", "!abcdefghijklmnopq:0", "!hall:0!hall:0", "!h\x00:0"}
)

// list is the encoding of a list of strings, by the library's numbers.
func list(l ...string) string {
	b := binary.AppendUvarint(nil, uint64(len(l)))
	for _, s := range l {
		b = append(binary.AppendUvarint(b, uint64(len(s))), s...)
	}
	return string(b)
}

// varint is the encoding of a number, by the library.
func varint(n int64) string {
	return string(binary.AppendUvarint(nil, uint64(n)))
}

// wantBytes is a valid event's encoding, apart from the program's.
func wantBytes(e api.Event) string {
	return list(e.Room, e.Sender, kinds[e.Kind-1].word, e.Key, e.Body, varint(e.Nonce))
}

// validEvents are valid events of all kinds, with edges of what may be.
func validEvents() []api.Event {
	longest := strings.Repeat("x", api.MaxBody)
	var events []api.Event
	for _, k := range kinds {
		key := ""
		if k.kind == api.EventMember {
			key = "@bob:1"
		}
		events = append(events,
			api.Event{Room: "!hall:0", Sender: "@ann:0", Kind: k.kind, Key: key},
			api.Event{Room: "!hall:0", Sender: "@ann:0", Kind: k.kind, Key: key, Body: "hi", Nonce: 7},
			api.Event{Room: "!abcdefghijklmnop:63", Sender: "@abcdefghijklmnop:63", Kind: k.kind, Key: key, Body: longest, Nonce: api.MaxNonce},
			api.Event{Room: "!-:10", Sender: "@_:62", Kind: k.kind, Key: key, Body: "\x00\xff\x80 \u00e4\n", Nonce: 128},
			api.Event{Room: "!a:9", Sender: "@0:1", Kind: k.kind, Key: key, Body: longest[1:], Nonce: api.MaxNonce - 1},
			api.Event{Room: "!a:9", Sender: "@0:1", Kind: k.kind, Key: key, Body: longest[:128], Nonce: 127},
		)
	}
	return append(events,
		api.Event{Room: "!hall:0", Sender: "@ann:0", Kind: api.EventMember, Key: "@ann:0", Body: "join"},
		api.Event{Room: "!hall:0", Sender: "@ann:0", Kind: api.EventMember, Key: "@abcdefghijklmnop:63", Body: "ban", Nonce: 1},
		api.Event{Room: "!hall:5", Sender: "@ann:9", Kind: api.EventCreate, Nonce: 300},
	)
}

// wrongEvents are events that are not valid, each by one thing.
func wrongEvents() []api.Event {
	var wrong []api.Event
	with := func(change func(e *api.Event)) {
		e := hi
		change(&e)
		wrong = append(wrong, e)
	}
	for _, text := range noRooms {
		with(func(e *api.Event) { e.Room = text })
	}
	for _, text := range noUsers {
		with(func(e *api.Event) { e.Sender = text })
		with(func(e *api.Event) { e.Kind, e.Key = api.EventMember, text })
	}
	for kind := range 256 {
		if k := api.EventKind(kind); k < api.EventCreate || k > api.EventHandover {
			with(func(e *api.Event) { e.Kind = k })
		}
	}
	for _, k := range kinds {
		for _, key := range []string{"@ann:0", "@bob:1", "x", " ", "\x00"} {
			if k.kind != api.EventMember {
				with(func(e *api.Event) { e.Kind, e.Key = k.kind, key })
			}
		}
	}
	for _, size := range []int{api.MaxBody + 1, 2 * api.MaxBody, api.MaxText, api.MaxText + 1, 1 << 20} {
		with(func(e *api.Event) { e.Body = strings.Repeat("x", size) })
	}
	for _, nonce := range []int64{-1, api.MaxNonce + 1, api.MaxNum, api.MaxNum + 1, math.MaxInt64, math.MinInt64} {
		with(func(e *api.Event) { e.Nonce = nonce })
	}
	return append(wrong, api.Event{})
}

// told is an event with no more than the beginnings of its texts.
func told(e api.Event) string {
	return fmt.Sprintf("{%.40q %.40q %d %.40q %.40q (%d bytes) %d}", e.Room, e.Sender, e.Kind, e.Key, e.Body, len(e.Body), e.Nonce)
}

// wantCode fails a test unless Parse refuses s.
func wantCode(t *testing.T, s string) {
	t.Helper()
	if e, errno := Parse(s); e != (api.Event{}) || errno != api.ErrCode {
		t.Errorf("Parse(%.80q) = %s, %d; want ErrCode", s, told(e), errno)
	}
}

// Promise 12.1: the chapter's examples.
func TestExamples(t *testing.T) {
	if errno := Check(api.Event{}); errno != api.ErrForm {
		t.Errorf("Check of the zero event = %d", errno)
	}
	if s, errno := Bytes(hi); s != hiBytes || errno != api.OK {
		t.Errorf("Bytes = %q, %d; want %q", s, errno, hiBytes)
	}
	if e, errno := Parse(hiBytes); e != hi || errno != api.OK {
		t.Errorf("Parse = %v, %d; want %v", e, errno, hi)
	}
	for b := range 256 {
		wantCode(t, hiBytes+string([]byte{byte(b)}))
	}
	if !State(api.EventName) || State(api.EventMessage) {
		t.Errorf("State = %t and %t", State(api.EventName), State(api.EventMessage))
	}
	if word := Word(api.EventHandover); word != "handover" {
		t.Errorf("Word = %q", word)
	}
}

// Promise 12.1.
func TestKinds(t *testing.T) {
	for kind := range 256 {
		k := api.EventKind(kind)
		want, state := "", false
		if 1 <= kind && kind <= len(kinds) {
			want, state = kinds[kind-1].word, kinds[kind-1].state
		}
		if word := Word(k); word != want {
			t.Errorf("Word(%d) = %q; want %q", kind, word, want)
		}
		if State(k) != state {
			t.Errorf("State(%d) = %t; want %t", kind, State(k), state)
		}
	}
}

// Promise 12.1.
func TestValid(t *testing.T) {
	for _, e := range validEvents() {
		if errno := Check(e); errno != api.OK {
			t.Errorf("Check(%s) = %d; want OK", told(e), errno)
		}
		if s, errno := Bytes(e); s != wantBytes(e) || errno != api.OK {
			t.Errorf("Bytes(%s) = %.80q, %d; want %.80q", told(e), s, errno, wantBytes(e))
		}
		if got, errno := Parse(wantBytes(e)); got != e || errno != api.OK {
			t.Errorf("Parse(%.80q) = %s, %d; want %s", wantBytes(e), told(got), errno, told(e))
		}
	}
}

// Promise 12.1.
func TestWrong(t *testing.T) {
	for _, e := range wrongEvents() {
		if errno := Check(e); errno != api.ErrForm {
			t.Errorf("Check(%s) = %d; want ErrForm", told(e), errno)
		}
		if s, errno := Bytes(e); s != "" || errno != api.ErrForm {
			t.Errorf("Bytes(%s) = %.80q, %d; want ErrForm", told(e), s, errno)
		}
		// What would be the encoding of an event that is not valid is none; a kind without a word has the empty one.
		word := ""
		if i := int(e.Kind) - 1; 0 <= i && i < len(kinds) {
			word = kinds[i].word
		}
		wantCode(t, list(e.Room, e.Sender, word, e.Key, e.Body, varint(e.Nonce)))
	}
}

// Promise 12.1: strings that are no event's encoding, for each of its parts.
func TestParseWrong(t *testing.T) {
	right := []string{"!hall:0", "@ann:0", "message", "", "hi", "\x07"}
	if list(right...) != hiBytes {
		t.Fatal("the parts are not those of the example")
	}
	with := func(at int, part string) {
		l := slices.Clone(right)
		l[at] = part
		wantCode(t, list(l...))
	}
	for _, text := range noRooms {
		with(0, text)
	}
	for _, text := range noUsers {
		with(1, text)
		wantCode(t, list("!hall:0", "@ann:0", "member", text, "join", "\x00"))
	}
	for _, word := range []string{"", "none", "Message", "MESSAGE", "messag", "messages", " message", "message ", "count", "submit", "\x06", "6", "member", "message\x00"} {
		with(2, word)
	}
	for _, key := range []string{"x", "@ann:0", "\x00"} {
		with(3, key)
	}
	with(4, strings.Repeat("x", api.MaxBody+1))
	with(4, strings.Repeat("x", api.MaxText))
	for _, nonce := range []string{
		"", "\x80", "\x80\x00", "\x87\x00", "\x07\x00", "\x07\x07", "\x07\xff", "\xff\xff\xff\xff\xff\xff\x7f", strings.Repeat("\x80", 7),
		varint(api.MaxNonce + 1), varint(api.MaxNum), varint(api.MaxNum + 1), varint(-1), varint(math.MinInt64),
	} {
		with(5, nonce)
	}
}

// Promise 12.1: lists of other lengths or in another order, and strings that are no lists.
func TestParseNoList(t *testing.T) {
	parts := []string{"!hall:0", "@ann:0", "message", "", "hi", "\x07"}
	for size := range len(parts) {
		wantCode(t, list(parts[:size]...))
		wantCode(t, list(parts[size+1:]...))
	}
	wantCode(t, list(append(slices.Clone(parts), "")...))
	wantCode(t, list(append(slices.Clone(parts), parts...)...))
	wantCode(t, list(append([]string{""}, parts...)...))
	wantCode(t, list("@ann:0", "!hall:0", "message", "", "hi", "\x07"))
	wantCode(t, list(list(parts...)))
	for _, s := range []string{"", "\x00", "\x06", "\x80", "\x86\x00" + hiBytes[1:], "hi", strings.Repeat("\xff", 100), "\x06" + strings.Repeat("\x00", 6), hiBytes + hiBytes, "\x00" + hiBytes, strings.Repeat("\x00", 1<<20)} {
		wantCode(t, s)
	}
	for size := range len(hiBytes) {
		wantCode(t, hiBytes[:size])
	}
}

// Promise 12.2: strings that are one byte away from an encoding.
func TestOneByteAway(t *testing.T) {
	for _, e := range validEvents() {
		s := wantBytes(e)
		if len(s) > 200 {
			continue
		}
		for at := range len(s) {
			for b := range 256 {
				backAndThere(t, s[:at]+string([]byte{byte(b)})+s[at+1:])
				backAndThere(t, s[:at]+string([]byte{byte(b)})+s[at:])
			}
			wantCode(t, s[:at])
			backAndThere(t, s[:at]+s[at+1:])
		}
	}
}

// Promise 12.2: events of random parts, of which many are valid.
func TestThereAndBack(t *testing.T) {
	source := rand.New(rand.NewSource(1))
	valid := 0
	for range 50000 {
		e := someEvent(source)
		s, errno := Bytes(e)
		if checked := Check(e); errno != checked {
			t.Fatalf("Bytes(%s) = %d, and Check = %d", told(e), errno, checked)
		}
		if errno != api.OK {
			continue
		}
		valid++
		if got, errno := Parse(s); got != e || errno != api.OK {
			t.Fatalf("Parse(%.80q) = %s, %d; want %s", s, told(got), errno, told(e))
		}
		wantCode(t, s+"\x00")
	}
	if valid < 5000 {
		t.Errorf("only %d events were valid", valid)
	}
}

// someEvent is an event of parts that are mostly right.
func someEvent(source *rand.Rand) api.Event {
	pick := func(texts ...string) string { return texts[source.Intn(len(texts))] }
	body := make([]byte, source.Intn(api.MaxBody+20))
	source.Read(body)
	return api.Event{
		Room:   pick("!hall:0", "!hall:63", "!-_:1", "!abcdefghijklmnop:10", "!h:4", "@hall:0"),
		Sender: pick("@ann:0", "@bob:1", "@cy:63", "@abcdefghijklmnop:10", "@0:0", "ann"),
		Kind:   api.EventKind(source.Intn(10)),
		Key:    pick("", "", "", "@ann:0", "@bob:63", "x"),
		Body:   string(body),
		Nonce:  source.Int63() >> (22 + source.Intn(41)),
	}
}

// Promise 12.2: no two events have one encoding.
func TestApart(t *testing.T) {
	seen := map[string]api.Event{}
	for _, e := range validEvents() {
		s, _ := Bytes(e)
		if other, is := seen[s]; is && other != e {
			t.Errorf("%s and %s have one encoding", told(e), told(other))
		}
		seen[s] = e
	}
}

// Promise 12.2.
func FuzzBackAndThere(f *testing.F) {
	for _, e := range validEvents() {
		f.Add(wantBytes(e))
	}
	f.Fuzz(func(t *testing.T, s string) { backAndThere(t, s) })
}

// backAndThere fails a test if Parse takes a string that is not the encoding of a valid event, its answer.
func backAndThere(t *testing.T, s string) {
	t.Helper()
	e, errno := Parse(s)
	if errno != api.OK {
		if e != (api.Event{}) || errno != api.ErrCode {
			t.Fatalf("Parse(%.80q) = %s, %d; want ErrCode", s, told(e), errno)
		}
		return
	}
	if checked := Check(e); checked != api.OK {
		t.Fatalf("Parse(%.80q) = %s, which is not valid", s, told(e))
	}
	if again, errno := Bytes(e); again != s || errno != api.OK || again != wantBytes(e) {
		t.Fatalf("Parse(%.80q) = %s, whose encoding is %.80q, %d", s, told(e), again, errno)
	}
}

// Promise 12.1, by the rule that an answer is new memory.
func TestNewMemory(t *testing.T) {
	e := api.Event{Room: strings.Clone("!hall:0"), Sender: strings.Clone("@ann:0"), Kind: api.EventMember, Key: strings.Clone("@bob:1"), Body: strings.Clone("join"), Nonce: 7}
	s, errno := Bytes(e)
	if errno != api.OK {
		t.Fatalf("Bytes = %d", errno)
	}
	got, errno := Parse(s)
	if errno != api.OK {
		t.Fatalf("Parse = %d", errno)
	}
	for _, part := range []string{e.Room, e.Sender, e.Key, e.Body} {
		apart(t, "Bytes", part, s)
	}
	for _, part := range []string{got.Room, got.Sender, got.Key, got.Body} {
		apart(t, "Parse", s, part)
	}
	same := Clone(e)
	apart(t, "Clone", e.Room, same.Room)
	apart(t, "Clone", e.Sender, same.Sender)
	apart(t, "Clone", e.Key, same.Key)
	apart(t, "Clone", e.Body, same.Body)
}

// Clone has no promise of its own: by it, other packages hand out events in new memory.
func TestClone(t *testing.T) {
	for _, e := range append(validEvents(), wrongEvents()...) {
		if same := Clone(e); same != e {
			t.Errorf("Clone(%s) = %s", told(e), told(same))
		}
	}
}

// apart fails a test if a result lies inside an argument's memory.
func apart(t *testing.T, call, argument, result string) {
	t.Helper()
	from := uintptr(unsafe.Pointer(unsafe.StringData(argument)))
	at := uintptr(unsafe.Pointer(unsafe.StringData(result)))
	if from <= at && at < from+uintptr(len(argument)) {
		t.Errorf("%s: the result lies in the argument's memory", call)
	}
}
