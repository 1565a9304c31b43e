package dag

import (
	"encoding/binary"
	"fmt"
	"math"
	"math/rand"
	"slices"
	"strings"
	"testing"
	"unsafe"

	"palaver/api"
	"palaver/event"
	"palaver/fold"
	"palaver/sha"
)

// The chapter's users.
const (
	ann = "@ann:0"
	bob = "@bob:1"
)

// of is an event of the chapter's room.
func of(kind api.EventKind, sender, key, body string) api.Event {
	return api.Event{Room: "!hall:0", Sender: sender, Kind: kind, Key: key, Body: body}
}

// The chapter's events, and some more.
var (
	create = of(api.EventCreate, ann, "", "")
	join   = of(api.EventMember, ann, ann, "join")
	hi     = of(api.EventMessage, ann, "", "hi")
	back   = of(api.EventRedact, ann, "", "hi")
	hall   = of(api.EventName, ann, "", "The hall")
	public = of(api.EventRule, ann, "", "public")
	power  = of(api.EventPower, ann, "", "0 50 0 50 50 50 @ann:0 100")
	give   = of(api.EventHandover, ann, "", "2")
	ask    = of(api.EventMember, ann, bob, "invite")
	bobs   = of(api.EventMember, bob, bob, "join")
)

// list is the encoding of a list of strings, by the library's numbers.
func list(l ...string) string {
	b := binary.AppendUvarint(nil, uint64(len(l)))
	for _, s := range l {
		b = append(binary.AppendUvarint(b, uint64(len(s))), s...)
	}
	return string(b)
}

// varint is the encoding of a number, by the library.
func varint(n int) string {
	return string(binary.AppendUvarint(nil, uint64(n)))
}

// bytes is a valid event's encoding.
func bytes(e api.Event) string {
	s, errno := event.Bytes(e)
	if errno != api.OK {
		panic(fmt.Sprint("an event that is not valid: ", e))
	}
	return s
}

// named is the name of a valid event, apart from the program's.
func named(e api.Event) api.Hash {
	words := []string{"", "create", "member", "power", "rule", "name", "message", "redact", "handover"}
	if e.Kind == api.EventMessage || e.Kind == api.EventName {
		e.Body = ""
	}
	return sha.Sum("\x06" + list(e.Room, e.Sender, words[e.Kind], e.Key, e.Body, varint(int(e.Nonce))))
}

// names are those of valid events.
func names(l ...api.Event) []api.Hash {
	h := []api.Hash{}
	for _, e := range l {
		h = append(h, named(e))
	}
	return h
}

// entries are those of events; nothing but their Event tells of them.
func entries(l ...api.Event) []api.Entry {
	var x []api.Entry
	for i, e := range l {
		x = append(x, api.Entry{Room: "x", Epoch: -i, Index: 7, Event: bytes(e), Sig: "y"})
	}
	return x
}

// cells is a state with events, which are in its order.
func cells(l ...api.Event) []api.Cell {
	var s []api.Cell
	for _, e := range l {
		s = append(s, api.Cell{Kind: e.Kind, Key: e.Key, Event: e})
	}
	return s
}

// same tells whether PDUs are alike.
func same(p, q api.Pdu) bool {
	return p.Event == q.Event && slices.Equal(p.Prev, q.Prev) && slices.Equal(p.Auth, q.Auth) && p.Depth == q.Depth
}

// told is a PDU in few words.
func told(p api.Pdu) string {
	return fmt.Sprintf("{%.60q, Prev %.9x (%d), Auth %.9x (%d), Depth %d}", p.Event, p.Prev, len(p.Prev), p.Auth, len(p.Auth), p.Depth)
}

// wantOf fails a test unless Of answers this.
func wantOf(t *testing.T, l []api.Entry, want []api.Pdu, wantErrno api.Errno) {
	t.Helper()
	got, many, errno := Of(l...)
	if !slices.EqualFunc(got, want, same) || many != len(want) || errno != wantErrno {
		t.Errorf("Of of %d entries = %d PDUs, %d, %d; want %d, %d", len(l), len(got), many, errno, len(want), wantErrno)
	}
	for i := range min(len(got), len(want)) {
		if !same(got[i], want[i]) {
			t.Errorf("Of: the PDU %d is %s; want %s", i, told(got[i]), told(want[i]))
		}
	}
}

// wantAuth fails a test unless Auth answers the names of these events.
func wantAuth(t *testing.T, s []api.Cell, e api.Event, want ...api.Event) {
	t.Helper()
	if got, errno := Auth(s, e); !slices.Equal(got, names(want...)) || errno != api.OK {
		t.Errorf("Auth of the kind %d in %d cells = %.4x, %d; want %.4x", e.Kind, len(s), got, errno, names(want...))
	}
}

// invalid fails a test unless a PDU is not valid.
func invalid(t *testing.T, p api.Pdu) {
	t.Helper()
	if errno := Check(p); errno != api.ErrForm {
		t.Errorf("Check(%s) = %d; want ErrForm", told(p), errno)
	}
	if s, errno := Bytes(p); s != "" || errno != api.ErrForm {
		t.Errorf("Bytes(%s) = %q, %d; want ErrForm", told(p), s, errno)
	}
	if h, errno := Name(p); h != (api.Hash{}) || errno != api.ErrForm {
		t.Errorf("Name(%s) = %x, %d; want ErrForm", told(p), h, errno)
	}
}

// noPdu fails a test unless Parse refuses a text.
func noPdu(t *testing.T, s string) {
	t.Helper()
	if p, errno := Parse(s); !same(p, api.Pdu{}) || p.Prev != nil || p.Auth != nil || errno != api.ErrCode {
		t.Errorf("Parse(%.200q) = %s, %d; want ErrCode", s, told(p), errno)
	}
}

// wantBytes is a valid PDU's encoding, apart from the program's.
func wantBytes(p api.Pdu) string {
	var lists [2]string
	for i, l := range [][]api.Hash{p.Prev, p.Auth} {
		var texts []string
		for _, h := range l {
			texts = append(texts, string(h[:]))
		}
		lists[i] = list(texts...)
	}
	return list(p.Event, lists[0], lists[1], varint(p.Depth))
}

// many are so many hashes.
func many(n int) []api.Hash {
	var l []api.Hash
	for i := range n {
		l = append(l, api.Hash{byte(i), 31: byte(255 - i)})
	}
	return l
}

// pdus are valid PDUs, with edges of what may be.
func pdus() []api.Pdu {
	longest := api.Event{Room: "!abcdefghijklmnop:63", Sender: "@abcdefghijklmnop:63", Kind: api.EventMember, Key: "@abcdefghijklmnop:62", Body: strings.Repeat("y", api.MaxBody), Nonce: api.MaxNonce}
	var l []api.Pdu
	for _, e := range []api.Event{create, join, hi, back, hall, public, power, give, longest} {
		for _, depth := range []int{1, 2, 127, 128, api.MaxEvents - 1, api.MaxEvents} {
			l = append(l, api.Pdu{Event: bytes(e), Depth: depth})
		}
		for _, n := range []int{0, 1, 2, 3, api.MaxLinks - 1, api.MaxLinks} {
			l = append(l, api.Pdu{Event: bytes(e), Prev: many(n), Auth: many(api.MaxLinks - n), Depth: 5})
		}
	}
	return append(l,
		api.Pdu{Event: bytes(hi), Prev: many(api.MaxLinks), Auth: many(api.MaxLinks), Depth: api.MaxEvents},
		api.Pdu{Event: bytes(hi), Prev: slices.Repeat(many(1), 3), Auth: slices.Repeat([]api.Hash{{}}, 16), Depth: 9}, // a name may stand there twice
	)
}

// Promises 32.1, 32.2: the chapter's examples.
func TestExamples(t *testing.T) {
	l, n, errno := Of(entries(create, join)...)
	if len(l) != 2 || n != 2 || errno != api.OK {
		t.Fatalf("Of = %d PDUs, %d, %d", len(l), n, errno)
	}
	wantOf(t, entries(create, join), []api.Pdu{
		{Event: bytes(create), Depth: 1},
		{Event: bytes(join), Prev: names(create), Auth: names(create), Depth: 2},
	}, api.OK)
	wantOf(t, []api.Entry{{Event: bytes(create)}, {Event: "x"}}, []api.Pdu{{Event: bytes(create), Depth: 1}}, api.ErrCode)
	invalid(t, api.Pdu{})
	s, errno := Bytes(l[1])
	want := list(bytes(join), list(string(l[1].Prev[0][:])), list(string(l[1].Prev[0][:])), "\x02")
	if s != want || errno != api.OK {
		t.Errorf("Bytes(%s) = %q, %d; want %q", told(l[1]), s, errno, want)
	}
	if p, errno := Parse(s); !same(p, l[1]) || errno != api.OK {
		t.Errorf("Parse(%q) = %s, %d; want %s", s, told(p), errno, told(l[1]))
	}
	if h, errno := Name(l[0]); h != named(create) || errno != api.OK {
		t.Errorf("Name(%s) = %x, %d", told(l[0]), h, errno)
	}
}

// Promise 32.1: which events authorize one, in which order, and each once.
func TestAuth(t *testing.T) {
	full := cells(create, join, bobs, power, public, hall, give)
	for _, e := range []api.Event{create, hi, back, hall, public, power, give} {
		wantAuth(t, nil, e)
		wantAuth(t, full, e, create, power, public, join)
		wantAuth(t, cells(hall, give), e)
		wantAuth(t, cells(create), e, create)
		wantAuth(t, cells(join), e, join)
		wantAuth(t, cells(bobs), e)
		wantAuth(t, cells(power), e, power)
		wantAuth(t, cells(public), e, public)
		wantAuth(t, cells(join, public), e, public, join)
		wantAuth(t, cells(create, join, power), e, create, power, join)
		e.Sender = bob
		wantAuth(t, full, e, create, power, public, bobs)
		e.Sender = "@cy:2"
		wantAuth(t, full, e, create, power, public)
	}
	for _, c := range []struct {
		sender, key string
		want        []api.Event
	}{
		{ann, ann, []api.Event{join}},
		{bob, bob, []api.Event{bobs}},
		{ann, bob, []api.Event{join, bobs}},
		{bob, ann, []api.Event{bobs, join}},
		{ann, "@cy:2", []api.Event{join}},
		{"@cy:2", ann, []api.Event{join}},
		{"@cy:2", "@cy:2", nil},
		{"@cy:2", "@dan:3", nil},
	} {
		// Whatever the membership, and whether or not the rules permit it.
		for _, body := range []string{"join", "ban", "knock", "x", ""} {
			e := of(api.EventMember, c.sender, c.key, body)
			wantAuth(t, full, e, append([]api.Event{create, power, public}, c.want...)...)
			wantAuth(t, cells(join, bobs), e, c.want...)
			wantAuth(t, cells(create, join, bobs), e, append([]api.Event{create}, c.want...)...)
			wantAuth(t, nil, e)
		}
	}
}

// Promise 32.1: a membership counts, whichever it is, and a message of the same user is not one.
func TestAuthMembership(t *testing.T) {
	for _, body := range []string{"leave", "ban", "invite", "knock"} {
		m := of(api.EventMember, ann, bob, body)
		said := hi
		said.Sender = bob
		wantAuth(t, cells(create, join, m), said, create, m)
		wantAuth(t, cells(create, join, m), of(api.EventMember, ann, bob, "join"), create, join, m)
	}
}

// Promise 32.1: Auth asks for a valid state and a valid event.
func TestAuthWrong(t *testing.T) {
	wrong := join
	wrong.Nonce = -1
	for _, s := range [][]api.Cell{
		{{}}, cells(hi), cells(wrong), cells(join, create), cells(create, create), cells(power, join), cells(bobs, bobs),
		{{Kind: api.EventCreate, Event: join}}, {{Kind: api.EventMember, Key: bob, Event: join}},
	} {
		for _, e := range []api.Event{hi, create, bobs, {}} {
			if l, errno := Auth(s, e); l != nil || errno != api.ErrForm {
				t.Errorf("Auth in a wrong state = %x, %d; want ErrForm", l, errno)
			}
		}
	}
	crowd := []api.Event{create}
	for i := range api.MaxCells {
		crowd = append(crowd, of(api.EventMember, ann, fmt.Sprintf("@u%03d:%d", i, i%64), "invite"))
	}
	last := crowd[api.MaxCells-1]
	wantAuth(t, cells(crowd[:api.MaxCells]...), last, create, last)
	if l, errno := Auth(cells(crowd...), last); l != nil || errno != api.ErrForm {
		t.Errorf("Auth in a state of %d cells = %x, %d; want ErrForm", len(crowd), l, errno)
	}
	for _, e := range []api.Event{{}, wrong, {Room: "!hall:0", Sender: ann, Kind: api.EventCount}, of(api.EventName, ann, ann, ""), of(api.EventMessage, ann, "", strings.Repeat("x", api.MaxBody+1))} {
		for _, s := range [][]api.Cell{nil, cells(create, join)} {
			if l, errno := Auth(s, e); l != nil || errno != api.ErrForm {
				t.Errorf("Auth of %v = %x, %d; want ErrForm", e, l, errno)
			}
		}
	}
}

// Promise 32.1: a longer chain.
func TestOf(t *testing.T) {
	left := of(api.EventMember, bob, bob, "leave")
	chain := []api.Event{create, join, hi, public, bobs, power, give, left, ask, back, hall}
	auths := [][]api.Event{
		nil,
		{create},
		{create, join},
		{create, join},
		{create, public},
		{create, public, join},
		{create, power, public, join},
		{create, power, public, bobs},
		{create, power, public, join, left},
		{create, power, public, join},
		{create, power, public, join},
	}
	var want []api.Pdu
	for i, e := range chain {
		p := api.Pdu{Event: bytes(e), Auth: names(auths[i]...), Depth: i + 1}
		if i > 0 {
			p.Prev = names(chain[i-1])
		}
		want = append(want, p)
	}
	for n := range len(chain) + 1 {
		wantOf(t, entries(chain[:n]...), want[:n], api.OK)
	}
}

// Promise 32.1: the first entry that is wrong ends the PDUs.
func TestOfWrong(t *testing.T) {
	ahead := []api.Pdu{{Event: bytes(create), Depth: 1}, {Event: bytes(join), Prev: names(create), Auth: names(create), Depth: 2}}
	other := hi
	other.Room = "!hall:1"
	for _, c := range []struct {
		text string
		want api.Errno
	}{
		{"", api.ErrCode},
		{"x", api.ErrCode},
		{bytes(hi) + "\x00", api.ErrCode},
		{bytes(hi)[1:], api.ErrCode},
		{bytes(create), api.ErrAuth},
		{bytes(bobs), api.ErrAuth},
		{bytes(other), api.ErrAuth},
		{bytes(of(api.EventMember, ann, ann, "third")), api.ErrForm},
		{bytes(of(api.EventPower, ann, "", "x")), api.ErrForm},
		{bytes(of(api.EventHandover, ann, "", "64")), api.ErrForm},
	} {
		for n := range 3 {
			if n == 0 && c.text == bytes(create) {
				continue
			}
			want := c.want
			if n == 0 && want != api.ErrCode { // where nobody made the room, nothing else is permitted
				want = api.ErrAuth
			}
			if n == 1 && want == api.ErrForm && !strings.Contains(c.text, "third") { // the sender has not joined yet
				want = api.ErrAuth
			}
			l := append(entries(create, join)[:n], api.Entry{Event: c.text})
			wantOf(t, l, ahead[:n], want)
			wantOf(t, append(l, api.Entry{Event: "x"}, api.Entry{Event: bytes(hi)}), ahead[:n], want)
		}
	}
	wantOf(t, entries(join, create), nil, api.ErrAuth)
	wantOf(t, entries(create, hi), ahead[:1], api.ErrAuth)
}

// Promise 32.1: a chain may be as long as a room, and no longer.
func TestOfLong(t *testing.T) {
	chain := []api.Event{create, join}
	want := []api.Pdu{{Event: bytes(create), Depth: 1}, {Event: bytes(join), Prev: names(create), Auth: names(create), Depth: 2}}
	for len(chain) <= api.MaxEvents {
		said := hi
		said.Nonce = int64(len(chain))
		want = append(want, api.Pdu{Event: bytes(said), Prev: names(chain[len(chain)-1]), Auth: names(create, join), Depth: len(chain) + 1})
		chain = append(chain, said)
	}
	l := entries(chain...)
	wantOf(t, l[:api.MaxEvents], want[:api.MaxEvents], api.OK)
	wantOf(t, l, want[:api.MaxEvents], api.ErrFull)
	if errno := Check(want[api.MaxEvents-1]); errno != api.OK {
		t.Errorf("Check of the last one = %d", errno)
	}
}

// Promise 32.1: as the state has no room for more members, Of ends with fold's error.
func TestOfFull(t *testing.T) {
	chain := []api.Event{create, join}
	for i := range api.MaxCells - 2 {
		chain = append(chain, of(api.EventMember, ann, fmt.Sprintf("@u%03d:%d", i, i%64), "invite"))
	}
	got, n, errno := Of(entries(append(chain, ask)...)...)
	if len(got) != api.MaxCells || n != api.MaxCells || errno != api.ErrFull {
		t.Errorf("Of = %d PDUs, %d, %d; want %d, ErrFull", len(got), n, errno, api.MaxCells)
	}
}

// Promises 32.2, 32.4: what is valid has a name and an encoding, which is read again.
func TestValid(t *testing.T) {
	for _, p := range pdus() {
		e, _ := event.Parse(p.Event)
		if errno := Check(p); errno != api.OK {
			t.Errorf("Check(%s) = %d", told(p), errno)
		}
		if h, errno := Name(p); h != named(e) || errno != api.OK {
			t.Errorf("Name(%s) = %x, %d; want %x", told(p), h, errno, named(e))
		}
		s, errno := Bytes(p)
		if s != wantBytes(p) || errno != api.OK {
			t.Errorf("Bytes(%s) = %.300q, %d; want %.300q", told(p), s, errno, wantBytes(p))
		}
		if got, errno := Parse(s); !same(got, p) || errno != api.OK {
			t.Errorf("Parse(%.300q) = %s, %d; want %s", s, told(got), errno, told(p))
		}
	}
}

// Promise 32.2: what is not valid.
func TestInvalid(t *testing.T) {
	good := bytes(hi)
	for _, depth := range []int{math.MinInt, -4096, -1, 0, api.MaxEvents + 1, 1 << 32, 1<<32 + 1, math.MaxInt} {
		invalid(t, api.Pdu{Event: good, Depth: depth})
	}
	for _, n := range []int{api.MaxLinks + 1, 256, 257, 300} {
		invalid(t, api.Pdu{Event: good, Prev: many(n), Depth: 1})
		invalid(t, api.Pdu{Event: good, Auth: many(n), Depth: 1})
		invalid(t, api.Pdu{Event: good, Prev: many(n), Auth: many(n), Depth: 1})
	}
	for _, s := range []string{"", "x", good + "\x00", good[1:], good[:len(good)-1], strings.Repeat("x", api.MaxText+1), "\x86\x00" + good[1:], list("!hall:0", ann, "third", "", "hi", "\x00")} {
		invalid(t, api.Pdu{Event: s, Prev: many(1), Auth: many(1), Depth: 1})
	}
}

// Promise 32.2: what is no encoding of a valid PDU.
func TestParseWrong(t *testing.T) {
	good := bytes(hi)
	h := string(make([]byte, 32))
	none, one := list(), list(h)
	if p, errno := Parse(list(good, one, none, "\x01")); errno != api.OK || !same(p, api.Pdu{Event: good, Prev: []api.Hash{{}}, Depth: 1}) {
		t.Fatalf("the right one: %s, %d", told(p), errno)
	}
	names17 := list(slices.Repeat([]string{h}, api.MaxLinks+1)...)
	names256 := list(slices.Repeat([]string{h}, 256)...)
	names257 := list(slices.Repeat([]string{h}, 257)...)
	for _, s := range []string{
		"", "\x00", "x", list(), list(good), list(good, none), list(good, none, none), list(good, none, none, "\x01", ""), list(good, none, none, "\x01", "\x01"),
		list("", none, none, "\x01"), list("x", none, none, "\x01"), list(good+"\x00", none, none, "\x01"), list(good[1:], none, none, "\x01"),
		list(good, "", none, "\x01"), list(good, none, "", "\x01"), list(good, "x", none, "\x01"), list(good, none, "\x01", "\x01"),
		list(good, h, none, "\x01"), list(good, none, h, "\x01"), list(good, one+"\x00", none, "\x01"), list(good, none, none+"\x00", "\x01"),
		list(good, list(""), none, "\x01"), list(good, none, list(""), "\x01"),
		list(good, list(h[1:]), none, "\x01"), list(good, none, list(h[1:]), "\x01"), list(good, list(h+"\x00"), none, "\x01"), list(good, none, list(h+"\x00"), "\x01"),
		list(good, list(h, h[1:]), none, "\x01"), list(good, none, list(h, h+h), "\x01"),
		list(good, "\x81\x00"+one[1:], none, "\x01"), list(good, none, "\x80\x00", "\x01"),
		list(good, names17, none, "\x01"), list(good, none, names17, "\x01"), list(good, names256, none, "\x01"), list(good, none, names257, "\x01"),
		list(good, none, none, ""), list(good, none, none, "\x00"), list(good, none, none, "\x01\x00"), list(good, none, none, "\x81"), list(good, none, none, "\x81\x00"),
		list(good, none, none, "\x81\x20"), list(good, none, none, varint(1<<32+1)), list(good, none, none, varint(api.MaxNum)), list(good, none, none, "\xff\xff\xff\xff\xff\xff\xff\x01"), list(good, none, none, "1"+"\x00"),
		list(none, good, none, "\x01"), list(good, "\x01", none, none),
	} {
		noPdu(t, s)
	}
	if p, errno := Parse(list(good, none, none, "\x80\x20")); errno != api.OK || p.Depth != api.MaxEvents {
		t.Errorf("the deepest one: %s, %d", told(p), errno)
	}
}

// Promise 32.4: what Parse accepts is the encoding of its result, whatever byte of an encoding is changed, missing or added.
func TestParseAccepts(t *testing.T) {
	taken := 0
	for _, p := range []api.Pdu{{Event: bytes(hi), Depth: 1}, {Event: bytes(bobs), Prev: many(2), Auth: many(1), Depth: 300}} {
		s := wantBytes(p)
		for i := range len(s) {
			noPdu(t, s[:i])
			noPdu(t, s[i+1:])
			texts := []string{s[:i] + s[i+1:], s[:i] + "\x00" + s[i:], s[:i] + "\x80" + s[i:]}
			for bit := range 8 {
				texts = append(texts, s[:i]+string([]byte{s[i] ^ 1<<bit})+s[i+1:])
			}
			for _, text := range texts {
				got, errno := Parse(text)
				if errno != api.OK {
					noPdu(t, text)
					continue
				}
				taken++
				if back, wrong := Bytes(got); back != text || wrong != api.OK {
					t.Fatalf("Parse(%q) = %s, whose encoding is %q, %d", text, told(got), back, wrong)
				}
			}
		}
	}
	if taken < 500 {
		t.Errorf("only %d texts that were taken", taken)
	}
}

// someEvent is an event of some kind by one of a few users.
func someEvent(source *rand.Rand) api.Event {
	pick := func(words ...string) string { return words[source.Intn(len(words))] }
	users := []string{ann, "@amy:0", bob, "@cy:2"}
	e := of(api.EventKind(1+source.Intn(8)), pick(append(users, ann, ann)...), "", "x")
	e.Nonce = source.Int63n(100)
	switch e.Kind {
	case api.EventMember:
		e.Key, e.Body = pick(append(users, e.Sender, e.Sender, e.Sender)...), pick("join", "join", "invite", "leave", "ban", "knock")
		if e.Key == ann { // without @ann:0, little would be permitted
			e.Body = "join"
		}
	case api.EventPower:
		e.Body = pick("0 50 0 50 50 50 @ann:0 100", "0 50 0 50 50 50 @ann:0 100 @bob:1 60")
	case api.EventRule:
		e.Body = pick("public", "public", "knock", "invite")
	case api.EventHandover:
		e.Body = pick("0", "1", "2", "63")
	}
	return e
}

// last is the last event of a kind and key, if there is one.
func last(l []api.Event, kind api.EventKind, key string) []api.Event {
	for _, e := range slices.Backward(l) {
		if e.Kind == kind && e.Key == key {
			return []api.Event{e}
		}
	}
	return nil
}

// Promises 32.1, 32.5: chains at random: the authorizing events of each one are the last ones ahead of it in the chain, and so is its Prev.
func TestRandom(t *testing.T) {
	source := rand.New(rand.NewSource(32))
	both := 0
	for range 30 {
		room, _, _ := fold.Run(create)
		chain := []api.Event{create}
		want := []api.Pdu{{Event: bytes(create), Depth: 1}}
		for range 200 {
			e := someEvent(source)
			next, errno := fold.Next(room, e)
			if errno != api.OK {
				wantOf(t, entries(append(chain, e)...), want, errno)
				continue
			}
			l := slices.Concat(last(chain, api.EventCreate, ""), last(chain, api.EventPower, ""), last(chain, api.EventRule, ""), last(chain, api.EventMember, e.Sender))
			if e.Kind == api.EventMember && e.Key != e.Sender {
				l = append(l, last(chain, api.EventMember, e.Key)...)
				both++
			}
			wantAuth(t, room.State, e, l...)
			want = append(want, api.Pdu{Event: bytes(e), Prev: names(chain[len(chain)-1]), Auth: names(l...), Depth: len(chain) + 1})
			chain, room = append(chain, e), next
		}
		wantOf(t, entries(chain...), want, api.OK)
		ahead(t, want)
	}
	if both < 50 {
		t.Errorf("only %d members that others changed", both)
	}
}

// ahead fails a test unless all that the PDUs of a chain name are events ahead of them.
func ahead(t *testing.T, l []api.Pdu) {
	t.Helper()
	seen := map[api.Hash]bool{}
	for _, p := range l {
		for _, h := range slices.Concat(p.Prev, p.Auth) {
			if !seen[h] {
				t.Errorf("%s names what is not ahead of it", told(p))
			}
		}
		h, errno := Name(p)
		if errno != api.OK {
			t.Errorf("Name(%s) = %d", told(p), errno)
		}
		seen[h] = true
	}
}

// Promise 32.3: no list of an answer shares memory with another one.
func TestNewMemory(t *testing.T) {
	l := entries(create, join, public, bobs)
	got, _, _ := Of(l...)
	want, _, _ := Of(l...)
	for i := range got {
		_ = append(got[i].Prev, api.Hash{9})
		_ = append(got[i].Auth, api.Hash{9})
		clear(got[i].Prev)
		clear(got[i].Auth)
		for j := range got {
			if j > i && !same(got[j], want[j]) {
				t.Errorf("the PDU %d shares its lists with the PDU %d", i, j)
			}
		}
	}
	wantOf(t, l, want, api.OK)
	s := cells(create, join, power, public)
	auth, _ := Auth(s, hi)
	clear(auth)
	wantAuth(t, s, hi, create, power, public, join)
	p := api.Pdu{Event: bytes(hi), Prev: many(2), Auth: many(3), Depth: 1}
	text, _ := Bytes(p)
	back, _ := Parse(text)
	clear(back.Prev)
	clear(back.Auth)
	if back, _ = Parse(text); !same(back, p) {
		t.Errorf("Parse = %s; want %s", told(back), told(p))
	}
}

// Promise 32.3: nor do texts lie in an argument's memory.
func TestNewTexts(t *testing.T) {
	l := entries(create, join)
	got, _, _ := Of(l...)
	for i := range got {
		if unsafe.StringData(got[i].Event) == unsafe.StringData(l[i].Event) {
			t.Errorf("the Event of the PDU %d lies in the entry's memory", i)
		}
	}
	text := wantBytes(api.Pdu{Event: bytes(hi), Depth: 1})
	p, _ := Parse(text)
	from, at := uintptr(unsafe.Pointer(unsafe.StringData(text))), uintptr(unsafe.Pointer(unsafe.StringData(p.Event)))
	if from <= at && at < from+uintptr(len(text)) {
		t.Error("the Event lies in the memory of what was read")
	}
}
