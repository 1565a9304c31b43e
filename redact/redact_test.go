package redact

import (
	"crypto/sha256"
	"encoding/binary"
	"fmt"
	"math/rand"
	"strings"
	"testing"
	"unsafe"

	"palaver/api"
	"palaver/event"
	"palaver/sha"
)

// hi is the chapter's event.
var hi = api.Event{Room: "!hall:0", Sender: "@ann:0", Kind: api.EventMessage, Body: "hi", Nonce: 7}

// words are the words of the kinds, in their order.
var words = []string{"create", "member", "power", "rule", "name", "message", "redact", "handover"}

// wantRedact is what remains of an event, apart from the program.
func wantRedact(e api.Event) api.Event {
	if e.Kind == 5 || e.Kind == 6 {
		return api.Event{Room: e.Room, Sender: e.Sender, Kind: e.Kind, Key: e.Key, Nonce: e.Nonce}
	}
	return e
}

// wantSum is the hash of a byte and a valid event's encoding, by the library.
func wantSum(first byte, e api.Event) api.Hash {
	b := []byte{first, 6}
	nonce := string(binary.AppendUvarint(nil, uint64(e.Nonce)))
	for _, s := range []string{e.Room, e.Sender, words[e.Kind-1], e.Key, e.Body, nonce} {
		b = append(binary.AppendUvarint(b, uint64(len(s))), s...)
	}
	return sha256.Sum256(b)
}

// validEvents are valid events of all kinds, with edges of what may be.
func validEvents() []api.Event {
	longest := strings.Repeat("x", api.MaxBody)
	var events []api.Event
	for kind := api.EventCreate; kind <= api.EventHandover; kind++ {
		key := ""
		if kind == api.EventMember {
			key = "@bob:1"
		}
		events = append(events,
			api.Event{Room: "!hall:0", Sender: "@ann:0", Kind: kind, Key: key},
			api.Event{Room: "!hall:0", Sender: "@ann:0", Kind: kind, Key: key, Body: "hi", Nonce: 7},
			api.Event{Room: "!hall:0", Sender: "@ann:0", Kind: kind, Key: key, Body: "hi", Nonce: 8},
			api.Event{Room: "!hall:0", Sender: "@bob:0", Kind: kind, Key: key, Body: "hi", Nonce: 7},
			api.Event{Room: "!hall:1", Sender: "@ann:0", Kind: kind, Key: key, Body: "ho", Nonce: 7},
			api.Event{Room: "!abcdefghijklmnop:63", Sender: "@abcdefghijklmnop:63", Kind: kind, Key: key, Body: longest, Nonce: api.MaxNonce},
			api.Event{Room: "!-:10", Sender: "@_:62", Kind: kind, Key: key, Body: "\x00\xff\x80 \u00e4\n", Nonce: 128},
			api.Event{Room: "!a:9", Sender: "@0:1", Kind: kind, Key: key, Body: longest[:127], Nonce: 127},
		)
	}
	return append(events, api.Event{Room: "!hall:0", Sender: "@ann:0", Kind: api.EventMember, Key: "@ann:0", Body: "join"})
}

// wrongEvents are events that are not valid, each by one thing; of some of them, a valid event remains.
func wrongEvents() []api.Event {
	var wrong []api.Event
	with := func(change func(e *api.Event)) {
		for kind := api.EventCreate; kind <= api.EventHandover; kind++ {
			e := api.Event{Room: "!hall:0", Sender: "@ann:0", Kind: kind, Body: "hi", Nonce: 7}
			if kind == api.EventMember {
				e.Key = "@bob:1"
			}
			change(&e)
			wrong = append(wrong, e)
		}
	}
	with(func(e *api.Event) { e.Body = strings.Repeat("x", api.MaxBody+1) })
	with(func(e *api.Event) { e.Body = strings.Repeat("x", api.MaxText+1) })
	with(func(e *api.Event) { e.Room = "hall:0" })
	with(func(e *api.Event) { e.Room = "@hall:0" })
	with(func(e *api.Event) { e.Sender = "!ann:0" })
	with(func(e *api.Event) { e.Sender = "" })
	with(func(e *api.Event) { e.Key = "x" })
	with(func(e *api.Event) { e.Nonce = -1 })
	with(func(e *api.Event) { e.Nonce = api.MaxNonce + 1 })
	with(func(e *api.Event) { e.Kind = api.EventNone })
	with(func(e *api.Event) { e.Kind = api.EventCount })
	with(func(e *api.Event) { e.Kind = 255 })
	return append(wrong, api.Event{}, api.Event{Kind: api.EventMessage, Body: "hi"})
}

// told is an event with no more than the beginnings of its texts.
func told(e api.Event) string {
	return fmt.Sprintf("{%.40q %.40q %d %.40q %.40q (%d bytes) %d}", e.Room, e.Sender, e.Kind, e.Key, e.Body, len(e.Body), e.Nonce)
}

// wantHash fails a test unless a call answers a hash and an error's number.
func wantHash(t *testing.T, call string, got api.Hash, errno api.Errno, want api.Hash, wantErrno api.Errno) {
	t.Helper()
	if got != want || errno != wantErrno {
		t.Errorf("%s = %x, %d; want %x, %d", call, got, errno, want, wantErrno)
	}
}

// Promise 13.1: the chapter's examples.
func TestExamples(t *testing.T) {
	rest := Redact(hi)
	if rest != (api.Event{Room: "!hall:0", Sender: "@ann:0", Kind: api.EventMessage, Nonce: 7}) {
		t.Errorf("Redact = %s", told(rest))
	}
	ref, errno := Ref(hi)
	wantHash(t, "Ref", ref, errno, sha.Sum("\x06\x06\x07!hall:0\x06@ann:0\x07message\x00\x00\x01\x07"), api.OK)
	content, errno := Content(hi)
	wantHash(t, "Content", content, errno, sha.Sum("\x07\x06\x07!hall:0\x06@ann:0\x07message\x00\x02hi\x01\x07"), api.OK)
	if ref == content {
		t.Error("Ref and Content are the same")
	}
	ref, errno = Ref(api.Event{})
	wantHash(t, "Ref of the zero event", ref, errno, api.Hash{}, api.ErrForm)
}

// Promise 13.1.
func TestRedact(t *testing.T) {
	for _, e := range append(validEvents(), wrongEvents()...) {
		if rest := Redact(e); rest != wantRedact(e) {
			t.Errorf("Redact(%s) = %s; want %s", told(e), told(rest), told(wantRedact(e)))
		}
	}
}

// Promise 13.1: all values of a kind, also those that are no kinds.
func TestRedactKinds(t *testing.T) {
	for kind := range 256 {
		e := api.Event{Room: "r", Sender: "s", Kind: api.EventKind(kind), Key: "k", Body: "b", Nonce: -5}
		want := e
		if e.Kind == api.EventMessage || e.Kind == api.EventName {
			want.Body = ""
		}
		if rest := Redact(e); rest != want {
			t.Errorf("Redact(%s) = %s", told(e), told(rest))
		}
	}
}

// Promise 13.1.
func TestHashes(t *testing.T) {
	for _, e := range validEvents() {
		ref, errno := Ref(e)
		wantHash(t, "Ref of "+told(e), ref, errno, wantSum(6, wantRedact(e)), api.OK)
		content, errno := Content(e)
		wantHash(t, "Content of "+told(e), content, errno, wantSum(7, e), api.OK)
	}
}

// Promise 13.1: an event that is not valid has no hash, though what remains of it may be valid.
func TestWrong(t *testing.T) {
	restValid := 0
	for _, e := range wrongEvents() {
		ref, errno := Ref(e)
		wantHash(t, "Ref of "+told(e), ref, errno, api.Hash{}, api.ErrForm)
		content, errno := Content(e)
		wantHash(t, "Content of "+told(e), content, errno, api.Hash{}, api.ErrForm)
		if event.Check(Redact(e)) == api.OK {
			restValid++
		}
	}
	if restValid == 0 {
		t.Error("of no wrong event, a valid one remains")
	}
}

// Promise 13.2.
func TestStable(t *testing.T) {
	for _, e := range append(validEvents(), wrongEvents()...) {
		stable(t, e)
	}
}

// Promise 13.2: events of random parts.
func TestStableRandom(t *testing.T) {
	source := rand.New(rand.NewSource(1))
	for range 10000 {
		stable(t, someEvent(source))
	}
}

// stable fails a test unless Redact leaves what remains of an event as it is, and a valid event's Ref too.
func stable(t *testing.T, e api.Event) {
	t.Helper()
	rest := Redact(e)
	if again := Redact(rest); again != rest {
		t.Fatalf("Redact(%s) = %s", told(rest), told(again))
	}
	if event.Check(e) != api.OK {
		return
	}
	ref, errno := Ref(e)
	restRef, restErrno := Ref(rest)
	if ref != restRef || errno != api.OK || restErrno != api.OK {
		t.Fatalf("the Ref of %s is %x, %d, and of what remains %x, %d", told(e), ref, errno, restRef, restErrno)
	}
}

// someEvent is an event of parts that are mostly right.
func someEvent(source *rand.Rand) api.Event {
	pick := func(texts ...string) string { return texts[source.Intn(len(texts))] }
	return api.Event{
		Room:   pick("!hall:0", "!hall:63", "!-_:1", "@hall:0"),
		Sender: pick("@ann:0", "@bob:1", "@0:0", "ann"),
		Kind:   api.EventKind(source.Intn(10)),
		Key:    pick("", "", "", "@ann:0"),
		Body:   strings.Repeat(pick("", "a", "\x00"), source.Intn(api.MaxBody+10)),
		Nonce:  source.Int63() >> (22 + source.Intn(41)),
	}
}

// Promise 13.3: events that differ have different contents; those that differ in nothing but a body that does not remain have one Ref.
func TestApart(t *testing.T) {
	contents, refs := map[api.Hash]api.Event{}, map[api.Hash]api.Event{}
	for _, e := range distinctEvents() {
		content, _ := Content(e)
		if other, is := contents[content]; is {
			t.Errorf("%s and %s have one Content", told(e), told(other))
		}
		contents[content] = e
		ref, _ := Ref(e)
		if other, is := refs[ref]; is && wantRedact(other) != wantRedact(e) {
			t.Errorf("%s and %s have one Ref", told(e), told(other))
		}
		refs[ref] = e
	}
	for ref := range refs {
		if other, is := contents[ref]; is {
			t.Errorf("%s has a Content that is also a Ref", told(other))
		}
	}
}

// distinctEvents are valid events, each of them once.
func distinctEvents() []api.Event {
	seen := map[api.Event]bool{}
	var events []api.Event
	source := rand.New(rand.NewSource(2))
	all := validEvents()
	for range 3000 {
		all = append(all, someEvent(source))
	}
	for _, e := range all {
		if event.Check(e) == api.OK && !seen[e] {
			seen[e] = true
			events = append(events, e)
		}
	}
	return events
}

// Promise 13.1, by the rule that an answer is new memory.
func TestNewMemory(t *testing.T) {
	for kind := api.EventCreate; kind <= api.EventHandover; kind++ {
		e := api.Event{Room: strings.Clone("!hall:0"), Sender: strings.Clone("@ann:0"), Kind: kind, Key: strings.Clone("@bob:1"), Body: strings.Clone("join"), Nonce: 7}
		rest := Redact(e)
		apart(t, e.Room, rest.Room)
		apart(t, e.Sender, rest.Sender)
		apart(t, e.Key, rest.Key)
		apart(t, e.Body, rest.Body)
	}
}

// apart fails a test if a text that remains lies in its event's memory.
func apart(t *testing.T, argument, result string) {
	t.Helper()
	if len(result) > 0 && unsafe.StringData(argument) == unsafe.StringData(result) {
		t.Errorf("Redact: the text %q lies in the argument's memory", result)
	}
}
