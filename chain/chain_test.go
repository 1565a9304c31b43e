package chain

import (
	"fmt"
	"math/rand"
	"slices"
	"strconv"
	"strings"
	"sync"
	"testing"
	"unsafe"

	"palaver/api"
	"palaver/book"
	"palaver/entry"
	"palaver/event"
	"palaver/fold"
	"palaver/key"
	"palaver/onetime"
	"palaver/sha"
	"palaver/tree"
)

// The chapter's room and user, and another user.
const (
	hall = "!hall:0"
	ann  = "@ann:0"
	bob  = "@bob:1"
)

// indices are those of a key of the height of a pen.
const indices = 1 << api.MaxHigh

// pen signs as a key of the height MaxHigh does, but at any index, and with its public keys at hand, so that long chains are soon signed.
type pen struct {
	seed   string
	leaves []api.Hash
	root   api.Hash
}

// pens are those of the servers 0 to 3.
var pens = sync.OnceValue(func() []pen {
	var l []pen
	for server := range 4 {
		p := pen{seed: "server " + strconv.Itoa(server)}
		for i := range indices {
			p.leaves = append(p.leaves, onetime.Public(p.seedOf(i)))
		}
		p.root, _ = tree.Root(p.leaves...)
		l = append(l, p)
	}
	return l
})

// seedOf is the one-time seed of an index.
func (p pen) seedOf(i int) string {
	return sha.Mid("\x05" + string([]byte{byte(i)}) + p.seed)
}

// signed is an entry with a pen's signature.
func (p pen) signed(t *testing.T, e api.Entry) api.Entry {
	t.Helper()
	text, errno := entry.Text(e)
	if errno != api.OK {
		t.Fatalf("Text(%s) = %d", told(e), errno)
	}
	i := e.Index % indices
	path, _ := tree.Path(p.leaves, i)
	e.Sig = string([]byte{byte(i)}) + onetime.Sign(p.seedOf(i), text)
	for _, h := range path {
		e.Sig += string(h[:])
	}
	return e
}

// all is a book by which each pen's server signs at all times.
func all() []api.Grant {
	var b []api.Grant
	for server, p := range pens() {
		b = append(b, api.Grant{Server: server, To: api.MaxTime, High: api.MaxHigh, Root: p.root})
	}
	return b
}

// Pens sign as keys do.
func TestPen(t *testing.T) {
	p := pens()[2]
	r, _ := key.Make(api.Key{Seed: p.seed, High: api.MaxHigh, Next: 5})
	e := api.Entry{Room: hall, Index: 5 + indices, Event: "x"}
	want, errno := entry.Sign(r, e)
	if got := p.signed(t, e); got != want || errno != api.OK || p.root != r.Root() {
		t.Errorf("a pen signs %s; the key %s, %d", told(got), told(want), errno)
	}
}

// of is an event of the chapter's room.
func of(kind api.EventKind, sender, key, body string, nonce int64) api.Event {
	return api.Event{Room: hall, Sender: sender, Kind: kind, Key: key, Body: body, Nonce: nonce}
}

// The events of most chains here: the room is made, and @ann:0 is in it.
var (
	create = of(api.EventCreate, ann, "", "", 0)
	join   = of(api.EventMember, ann, ann, "join", 0)
)

// say is a message.
func say(nonce int64) api.Event {
	return of(api.EventMessage, ann, "", "say", nonce)
}

// give is a handover.
func give(server int, nonce int64) api.Event {
	return of(api.EventHandover, ann, "", strconv.Itoa(server), nonce)
}

// bytes is an event's encoding.
func bytes(t *testing.T, e api.Event) string {
	t.Helper()
	s, errno := event.Bytes(e)
	if errno != api.OK {
		t.Fatalf("Bytes(%v) = %d", e, errno)
	}
	return s
}

// empty is an empty chain of the chapter's room.
func empty(t *testing.T) *Chain {
	t.Helper()
	c, errno := New(hall, all())
	if c == nil || errno != api.OK {
		t.Fatalf("New = %v, %d", c, errno)
	}
	return c
}

// next is the entry that would follow with an event, signed by the hub.
func next(t *testing.T, c *Chain, e api.Event) api.Entry {
	t.Helper()
	bare, errno := c.Next(bytes(t, e))
	if errno != api.OK {
		t.Fatalf("Next(%v) = %d", e, errno)
	}
	return pens()[c.Hub()].signed(t, bare)
}

// made is a chain of the chapter's room with the entries of events.
func made(t *testing.T, events ...api.Event) *Chain {
	t.Helper()
	c := empty(t)
	for _, e := range events {
		wantAppend(t, c, next(t, c, e), api.OK)
	}
	return c
}

// with is an entry that was changed.
func with(e api.Entry, change func(e *api.Entry)) api.Entry {
	change(&e)
	return e
}

// told is an entry with no more than the beginnings of its texts.
func told(e api.Entry) string {
	return fmt.Sprintf("{%.40q %d %d %x %.60q (%d bytes) %.10q (%d bytes)}", e.Room, e.Epoch, e.Index, e.Prev[:4], e.Event, len(e.Event), e.Sig, len(e.Sig))
}

// sameRoom tells whether rooms are alike.
func sameRoom(r, s api.Room) bool {
	return slices.Equal(r.State, s.State) && r.Hub == s.Hub && r.Epoch == s.Epoch && r.Len == s.Len
}

// content is all that a chain answers when it is asked.
type content struct {
	entries []api.Entry
	last    api.Hash
	hub     int
	room    api.Room
}

// asked is a chain's content.
func asked(t *testing.T, c *Chain) content {
	t.Helper()
	entries := c.Entries()
	if c.Len() != len(entries) {
		t.Errorf("Len = %d, and there are %d entries", c.Len(), len(entries))
	}
	return content{entries, c.Last(), c.Hub(), c.Room()}
}

// wantContent fails a test unless a chain has this content.
func wantContent(t *testing.T, c *Chain, want content) {
	t.Helper()
	got := asked(t, c)
	if !slices.Equal(got.entries, want.entries) || got.last != want.last || got.hub != want.hub || !sameRoom(got.room, want.room) {
		t.Errorf("the chain has %d entries, Last %x, Hub %d, Room %v; want %d, %x, %d, %v",
			len(got.entries), got.last[:4], got.hub, got.room, len(want.entries), want.last[:4], want.hub, want.room)
	}
	for _, e := range want.entries {
		if !c.Has(e.Event) {
			t.Errorf("Has(%.60q) = false", e.Event)
		}
	}
}

// wantAppend fails a test unless Append answers this, and, if that is an error, changes nothing.
func wantAppend(t *testing.T, c *Chain, e api.Entry, want api.Errno) {
	t.Helper()
	before, had := asked(t, c), c.Has(e.Event)
	errno := c.Append(e)
	if errno != want {
		t.Fatalf("Append(%s) = %d; want %d", told(e), errno, want)
	}
	if errno != api.OK {
		wantContent(t, c, before)
		if c.Has(e.Event) != had {
			t.Errorf("after Append(%s) = %d, Has is %t", told(e), errno, !had)
		}
	}
}

// wantNext fails a test unless Next answers this error and nothing, or an entry without one; it must change nothing.
func wantNext(t *testing.T, c *Chain, text string, want api.Errno) {
	t.Helper()
	before, had := asked(t, c), c.Has(text)
	e, errno := c.Next(text)
	follows := api.Entry{}
	if want == api.OK {
		follows = api.Entry{Room: hall, Epoch: before.room.Epoch, Index: len(before.entries), Prev: before.last, Event: text}
	}
	if e != follows || errno != want {
		t.Errorf("Next(%.60q) = %s, %d; want %s, %d", text, told(e), errno, told(follows), want)
	}
	wantContent(t, c, before)
	if c.Has(text) != had {
		t.Errorf("after Next(%.60q), Has is %t", text, !had)
	}
}

// Promises 20.1, 20.2 and 20.3: the chapter's examples.
func TestExamples(t *testing.T) {
	if c, errno := New("hall", nil); c != nil || errno != api.ErrForm {
		t.Errorf("New = %v, %d; want ErrForm", c, errno)
	}
	c := empty(t)
	if hub := c.Hub(); hub != 0 {
		t.Errorf("Hub = %d", hub)
	}
	s := bytes(t, create)
	bare, errno := c.Next(s)
	if bare != (api.Entry{Room: hall, Event: s}) || errno != api.OK {
		t.Fatalf("Next = %s, %d", told(bare), errno)
	}
	wantAppend(t, c, bare, api.ErrForm)
	e := pens()[0].signed(t, bare)
	wantAppend(t, c, e, api.OK)
	wantAppend(t, c, e, api.ErrLink)
	sum, _ := entry.Sum(e)
	room, _, _ := fold.Run(create)
	wantContent(t, c, content{[]api.Entry{e}, sum, 0, room})
	wantNext(t, c, s, api.ErrTwice)
	wantNext(t, c, "x", api.ErrCode)
	if n := Common([]api.Entry{e, e}, c.Entries()); n != 1 {
		t.Errorf("Common = %d; want 1", n)
	}
}

// Promise 20.1: chains of all servers' rooms.
func TestNew(t *testing.T) {
	most := make([]api.Grant, api.MaxGrants)
	for i := range most {
		most[i].From, most[i].To = int64(i), int64(i)
	}
	for server := range 64 {
		for _, b := range [][]api.Grant{nil, {}, all(), most} {
			room := "!hall:" + strconv.Itoa(server)
			c, errno := New(room, b)
			if c == nil || errno != api.OK {
				t.Fatalf("New(%q, %d grants) = %v, %d", room, len(b), c, errno)
			}
			wantContent(t, c, content{hub: server})
			if c.Has("") || c.Has(bytes(t, create)) {
				t.Error("an empty chain has an event")
			}
		}
	}
}

// Promise 20.1.
func TestNewWrong(t *testing.T) {
	rooms := []string{"", "!", "hall:0", "@ann:0", "!hall", "!hall:", "!hall:00", "!hall:64", "!hall:-1", "!Hall:0", "!hall:0 ", "!abcdefghijklmnopq:0"}
	for _, room := range rooms {
		for _, b := range [][]api.Grant{nil, all()} {
			if c, errno := New(room, b); c != nil || errno != api.ErrForm {
				t.Errorf("New(%q, ..) = %v, %d; want ErrForm", room, c, errno)
			}
		}
	}
	for _, b := range [][]api.Grant{
		{{Server: 64}},
		{{Server: -1}},
		{{From: 1}},
		{{High: api.MaxHigh + 1}},
		{{Server: 1}, {Server: 0}},
		{{To: 5}, {From: 5, To: 6}},
		append(all(), all()...),
		make([]api.Grant, api.MaxGrants+1),
	} {
		if c, errno := New(hall, b); c != nil || errno != api.ErrForm {
			t.Errorf("New of a book that is not valid = %v, %d; want ErrForm", c, errno)
		}
		if c, errno := New("hall", b); c != nil || errno != api.ErrForm {
			t.Errorf("New of nothing valid = %v, %d; want ErrForm", c, errno)
		}
	}
}

// Promises 20.1 and 20.2: what a chain is after each entry, through handovers.
func TestAppend(t *testing.T) {
	c := empty(t)
	events := []api.Event{create, join, say(1), give(2, 1), say(2), of(api.EventName, ann, "", "The hall", 0), give(2, 2), give(3, 3), say(3), give(0, 4), say(4)}
	hubs := []int{0, 0, 0, 0, 2, 2, 2, 2, 3, 3, 0}
	epochs := []int{0, 0, 0, 0, 1, 1, 1, 2, 3, 3, 4}
	var want content
	for i, e := range events {
		if hub := c.Hub(); hub != hubs[i] {
			t.Fatalf("ahead of the entry %d, the hub is %d; want %d", i, hub, hubs[i])
		}
		f := api.Entry{Room: hall, Epoch: epochs[i], Index: i, Prev: want.last, Event: bytes(t, e)}
		if c.Has(f.Event) {
			t.Errorf("the chain has the event %d ahead of it", i)
		}
		wantNext(t, c, f.Event, api.OK)
		for server := range 4 {
			if server != hubs[i] {
				wantAppend(t, c, pens()[server].signed(t, f), api.ErrSign)
			}
		}
		f = pens()[hubs[i]].signed(t, f)
		wantAppend(t, c, f, api.OK)
		want.entries = append(want.entries, f)
		want.last, _ = entry.Sum(f)
		want.room, _, _ = fold.Run(events[:i+1]...)
		want.hub = want.room.Hub
		wantContent(t, c, want)
	}
}

// Promises 20.1 and 20.2: the first entry is that of the room's server, whichever that is.
func TestOtherServer(t *testing.T) {
	c, _ := New("!hall:3", all())
	e := api.Event{Room: "!hall:3", Sender: "@cy:3", Kind: api.EventCreate}
	f := api.Entry{Room: "!hall:3", Event: bytes(t, e)}
	wantAppend(t, c, pens()[0].signed(t, f), api.ErrSign)
	wantAppend(t, c, pens()[3].signed(t, f), api.OK)
	if hub, room := c.Hub(), c.Room(); hub != 3 || room.Hub != 3 {
		t.Errorf("Hub = %d, and the room's is %d; want 3", hub, room.Hub)
	}
}

// Promise 20.2: the first error applies. Each fault is put together with each one that comes later.
func TestAppendOrder(t *testing.T) {
	c := made(t, create, join, say(1), give(2, 1), say(2))
	right, _ := c.Next(bytes(t, say(3)))
	stranger := say(3)
	stranger.Sender = bob
	outside := say(3)
	outside.Room = "!other:0"
	third := of(api.EventMember, ann, bob, "third", 0)
	type fault struct {
		change func(e *api.Entry)
		want   api.Errno
	}
	invalid := []fault{
		{func(e *api.Entry) { e.Room = "hall" }, api.ErrForm},
		{func(e *api.Entry) { e.Room = "" }, api.ErrForm},
		{func(e *api.Entry) { e.Epoch = -1 }, api.ErrForm},
		{func(e *api.Entry) { e.Epoch = api.MaxEvents + 1 }, api.ErrForm},
		{func(e *api.Entry) { e.Index = -1 }, api.ErrForm},
		{func(e *api.Entry) { e.Index = api.MaxEvents + 1 }, api.ErrForm},
	}
	links := []fault{
		{func(e *api.Entry) { e.Room = "!hall:2" }, api.ErrLink},
		{func(e *api.Entry) { e.Room = "!other:0" }, api.ErrLink},
		{func(e *api.Entry) { e.Index-- }, api.ErrLink},
		{func(e *api.Entry) { e.Index++ }, api.ErrLink},
		{func(e *api.Entry) { e.Index = 0 }, api.ErrLink},
		{func(e *api.Entry) { e.Epoch-- }, api.ErrLink},
		{func(e *api.Entry) { e.Epoch++ }, api.ErrLink},
		{func(e *api.Entry) { e.Prev = api.Hash{} }, api.ErrLink},
		{func(e *api.Entry) { e.Prev[31] ^= 1 }, api.ErrLink},
	}
	events := []fault{
		{func(e *api.Entry) { e.Event = "x" }, api.ErrCode},
		{func(e *api.Entry) { e.Event = "" }, api.ErrCode},
		{func(e *api.Entry) { e.Event += "\x00" }, api.ErrCode},
		{func(e *api.Entry) { e.Event = strings.Repeat("x", api.MaxText) }, api.ErrCode},
		{func(e *api.Entry) { e.Event = bytes(t, create) }, api.ErrTwice},
		{func(e *api.Entry) { e.Event = bytes(t, say(2)) }, api.ErrTwice},
		{func(e *api.Entry) { e.Event = bytes(t, outside) }, api.ErrAuth},
		{func(e *api.Entry) { e.Event = bytes(t, stranger) }, api.ErrAuth},
		{func(e *api.Entry) { e.Event = bytes(t, third) }, api.ErrForm},
	}
	for _, last := range append(events, fault{func(*api.Entry) {}, api.OK}) {
		e := with(right, last.change)
		signatures := map[string]api.Errno{
			"":                                    api.ErrForm,
			"x":                                   api.ErrForm,
			pens()[0].signed(t, e).Sig:            api.ErrSign,
			pens()[2].signed(t, c.entries[4]).Sig: api.ErrSign,
		}
		signatures[pens()[2].signed(t, e).Sig] = last.want
		for sig, want := range signatures {
			e.Sig = sig
			for _, link := range links {
				f := with(e, link.change)
				for _, wrong := range invalid {
					wantAppend(t, c, with(f, wrong.change), wrong.want)
				}
				wantAppend(t, c, f, link.want)
				wantAppend(t, c, pens()[2].signed(t, f), link.want)
			}
			if want != api.OK {
				wantAppend(t, c, e, want)
			}
		}
	}
	long := strings.Repeat("x", api.MaxText+1)
	wantAppend(t, c, with(right, func(e *api.Entry) { e.Sig = long }), api.ErrForm)
	wantAppend(t, c, with(right, func(e *api.Entry) { e.Event = long }), api.ErrForm)
	wantAppend(t, c, api.Entry{}, api.ErrForm)
	wantAppend(t, c, pens()[2].signed(t, right), api.OK)
}

// Promise 20.2: an event of another room is refused, also one that the rules would permit, and one that is not theirs to judge.
func TestOtherRoom(t *testing.T) {
	c := empty(t)
	other := create
	other.Room = "!other:0"
	wantNext(t, c, bytes(t, other), api.ErrAuth)
	wantAppend(t, c, pens()[0].signed(t, api.Entry{Room: hall, Event: bytes(t, other)}), api.ErrAuth)
	c = made(t, create, join)
	other = give(64, 0)
	other.Room = "!other:0"
	wantNext(t, c, bytes(t, other), api.ErrAuth)
}

// Promise 20.2: an event that the chain has is told ahead of what the rules say of it.
func TestTwice(t *testing.T) {
	leave := of(api.EventMember, ann, ann, "leave", 0)
	c := made(t, create, join, say(1), leave)
	for _, e := range []api.Event{create, join, say(1), leave} {
		wantNext(t, c, bytes(t, e), api.ErrTwice)
		f := api.Entry{Room: hall, Index: c.Len(), Prev: c.Last(), Event: bytes(t, e)}
		wantAppend(t, c, pens()[0].signed(t, f), api.ErrTwice)
	}
	wantNext(t, c, bytes(t, say(2)), api.ErrAuth)
}

// Promise 20.2: what Next refuses, and that it changes nothing.
func TestNext(t *testing.T) {
	c := made(t, create, join, say(1), give(2, 1))
	stranger := say(2)
	stranger.Sender = bob
	for text, want := range map[string]api.Errno{
		"":                         api.ErrCode,
		"x":                        api.ErrCode,
		bytes(t, say(2)) + "\x00":  api.ErrCode,
		bytes(t, say(2))[1:]:       api.ErrCode,
		strings.Repeat("x", 1<<20): api.ErrCode,
		bytes(t, say(1)):           api.ErrTwice,
		bytes(t, give(2, 1)):       api.ErrTwice,
		bytes(t, stranger):         api.ErrAuth,
		bytes(t, of(api.EventCreate, ann, "", "", 1)):        api.ErrAuth,
		bytes(t, of(api.EventMember, ann, bob, "third", 0)):  api.ErrForm,
		bytes(t, give(64, 0)):                                api.ErrForm,
		bytes(t, say(2)):                                     api.OK,
		bytes(t, give(2, 2)):                                 api.OK,
		bytes(t, of(api.EventMember, ann, bob, "invite", 0)): api.OK,
	} {
		wantNext(t, c, text, want)
	}
	wantNext(t, empty(t), bytes(t, join), api.ErrAuth)
	wantNext(t, empty(t), bytes(t, create), api.OK)
}

// Promise 20.2: the time of an entry is its index, and a key signs in its time alone.
func TestKeyTimes(t *testing.T) {
	p := pens()
	b := []api.Grant{
		{Server: 0, From: 0, To: 1, High: api.MaxHigh, Root: p[0].root},
		{Server: 0, From: 2, To: 3, High: api.MaxHigh, Root: p[1].root},
		{Server: 1, From: 0, To: 9, High: api.MaxHigh, Root: p[2].root},
	}
	c, _ := New(hall, b)
	for i, e := range []api.Event{create, join, say(1), say(2)} {
		bare, _ := c.Next(bytes(t, e))
		for signer := range p {
			if signer != i/2 {
				wantAppend(t, c, p[signer].signed(t, bare), api.ErrSign)
			}
		}
		wantAppend(t, c, p[i/2].signed(t, bare), api.OK)
	}
	bare, _ := c.Next(bytes(t, say(3)))
	for _, signer := range p {
		wantAppend(t, c, signer.signed(t, bare), api.ErrNone)
	}
	c, _ = New(hall, nil)
	wantAppend(t, c, p[0].signed(t, api.Entry{Room: hall, Event: bytes(t, create)}), api.ErrNone)
}

// Promise 20.2: a chain takes MaxEvents entries, and no more.
func TestFull(t *testing.T) {
	c := made(t, create, join)
	for i := c.Len(); i < api.MaxEvents; i++ {
		e, errno := c.Next(bytes(t, say(int64(i))))
		if errno == api.OK {
			errno = c.Append(pens()[0].signed(t, e))
		}
		if errno != api.OK {
			t.Fatalf("the entry %d: %d", i, errno)
		}
	}
	if n, m := c.Len(), c.Room().Len; n != api.MaxEvents || m != api.MaxEvents {
		t.Errorf("Len = %d, and the room's is %d", n, m)
	}
	for e, want := range map[api.Event]api.Errno{say(9): api.ErrTwice, say(0): api.ErrFull, give(1, 0): api.ErrFull, of(api.EventMessage, bob, "", "", 0): api.ErrAuth} {
		wantNext(t, c, bytes(t, e), want)
		f := api.Entry{Room: hall, Index: c.Len(), Prev: c.Last(), Event: bytes(t, e)}
		wantAppend(t, c, pens()[0].signed(t, f), want)
	}
}

// Promise 20.3: entries differ in any field.
func TestCommon(t *testing.T) {
	c := made(t, create, join, say(1), say(2))
	l := c.Entries()
	wantCommon := func(a, b []api.Entry, want int) {
		t.Helper()
		if n, m := Common(a, b), Common(b, a); n != want || m != want {
			t.Errorf("Common = %d and %d; want %d", n, m, want)
		}
	}
	wantCommon(nil, nil, 0)
	for from := range len(l) + 1 {
		wantCommon(l[:from], nil, 0)
		for to := range len(l) + 1 {
			wantCommon(l[:from], l[:to], min(from, to))
		}
	}
	for at := range l {
		for _, change := range []func(e *api.Entry){
			func(e *api.Entry) { e.Room = "!hall:1" },
			func(e *api.Entry) { e.Epoch++ },
			func(e *api.Entry) { e.Index++ },
			func(e *api.Entry) { e.Prev[31] ^= 1 },
			func(e *api.Entry) { e.Event += "x" },
			func(e *api.Entry) { e.Sig += "x" },
			func(e *api.Entry) { e.Sig = "" },
			func(e *api.Entry) { *e = api.Entry{} },
		} {
			m := slices.Clone(l)
			change(&m[at])
			wantCommon(l, m, at)
			wantCommon(l, m[:at+1], at)
			wantCommon(m, m, len(m))
		}
	}
	wantCommon(l, l[1:], 0)
	wantCommon([]api.Entry{{}, {Index: -1}}, []api.Entry{{}, {Index: -1}, {}}, 2)
}

// Promise 20.4: a change of what came in, or of what was answered, changes no chain.
func TestNewMemory(t *testing.T) {
	b := all()
	c, _ := New(hall, b)
	clear(b)
	for _, e := range []api.Event{create, join, say(1)} {
		wantAppend(t, c, next(t, c, e), api.OK)
	}
	before := asked(t, c)
	clear(c.Entries())
	_ = append(c.Entries(), api.Entry{})
	clear(c.Room().State)
	wantContent(t, c, before)
	wantAppend(t, c, next(t, c, say(2)), api.OK)
	if len(before.entries) != 3 || before.room.Len != 3 {
		t.Error("Append changed what was answered before it")
	}
	l := c.Entries()
	Common(l, l[1:])
	if !slices.Equal(l, c.Entries()) {
		t.Error("Common changed its arguments")
	}
}

// Promise 20.4: nor do texts lie in an argument's memory, also those that are kept.
func TestNewTexts(t *testing.T) {
	room := strings.Clone(hall)
	c, _ := New(room, all())
	text := bytes(t, create)
	bare, _ := c.Next(text)
	apart(t, "Next", bare.Event, text)
	apart(t, "Next", bare.Room, room)
	e := pens()[0].signed(t, bare)
	wantAppend(t, c, e, api.OK)
	kept := c.entries[0]
	apart(t, "New", c.room, room)
	apart(t, "Append", kept.Room, e.Room)
	apart(t, "Append", kept.Event, e.Event)
	apart(t, "Append", kept.Sig, e.Sig)
	got, again := c.Entries()[0], c.Entries()[0]
	for _, other := range []api.Entry{e, again} {
		apart(t, "Entries", got.Room, other.Room)
		apart(t, "Entries", got.Event, other.Event)
		apart(t, "Entries", got.Sig, other.Sig)
	}
	cell, other := c.Room().State[0], c.Room().State[0]
	apart(t, "Room", cell.Event.Sender, other.Event.Sender)
	apart(t, "Room", cell.Event.Room, room)
}

// apart fails a test if two texts are one in memory.
func apart(t *testing.T, call, a, b string) {
	t.Helper()
	if unsafe.StringData(a) == unsafe.StringData(b) {
		t.Errorf("%s: the text %.40q lies in other memory", call, a)
	}
}

// A chain that New did not make takes nothing, and finds nothing; no call panics.
func TestNone(t *testing.T) {
	text := bytes(t, create)
	for _, c := range []*Chain{nil, {}} {
		for range 2 {
			wantContent(t, c, content{})
			wantNext(t, c, "x", api.ErrCode)
			wantNext(t, c, text, api.ErrAuth)
			wantAppend(t, c, api.Entry{}, api.ErrForm)
			wantAppend(t, c, pens()[0].signed(t, api.Entry{Room: hall, Event: text}), api.ErrLink)
			if c.Has("") || c.Has(text) {
				t.Error("a chain that is none has an event")
			}
		}
	}
}

// someEvent is an event of some kind by one of a few users; many are not permitted.
func someEvent(source *rand.Rand) api.Event {
	pick := func(words ...string) string { return words[source.Intn(len(words))] }
	e := of(api.EventKind(1+source.Intn(8)), pick(ann, ann, ann, bob), "", "x", source.Int63n(20))
	switch e.Kind {
	case api.EventMember:
		e.Key, e.Body = pick(ann, bob), pick("join", "join", "invite", "leave", "third")
		if e.Sender == e.Key {
			e.Body = pick("join", "join", "join", "leave")
		}
	case api.EventPower:
		e.Body = pick("0 50 0 50 50 50 @ann:0 100", "0 50 0 50 50 50 @ann:0 100 @bob:1 60", "x")
	case api.EventRule:
		e.Body = pick("public", "knock", "x")
	case api.EventHandover:
		e.Body = pick("0", "1", "2", "3", "3", "64")
	}
	if source.Intn(20) == 0 {
		e.Room = "!other:0"
	}
	return e
}

// Promises 20.1, 20.2 and 20.5: whatever is offered, a chain takes what the chapter says, and stays right.
func TestRandom(t *testing.T) {
	source := rand.New(rand.NewSource(1))
	counts := map[api.Errno]int{}
	for range 12 {
		c := made(t, create, join)
		events := []api.Event{create, join}
		for range 150 {
			e := someEvent(source)
			text := bytes(t, e)
			room, _, errno := fold.Run(append(slices.Clone(events), e)...)
			if e.Room != hall {
				errno = api.ErrAuth
			}
			if slices.Contains(events, e) {
				errno = api.ErrTwice
			}
			wantNext(t, c, text, errno)
			f := api.Entry{Room: hall, Epoch: c.Room().Epoch, Index: c.Len(), Prev: c.Last(), Event: text}
			signer := c.Hub()
			if source.Intn(10) == 0 {
				signer = source.Intn(4)
			}
			want := errno
			if signer != c.Hub() {
				want = api.ErrSign
			}
			if source.Intn(10) == 0 {
				f.Index += source.Intn(2)*2 - 1
				want = api.ErrLink
			}
			wantAppend(t, c, pens()[signer].signed(t, f), want)
			counts[want]++
			if want == api.OK {
				events = append(events, e)
				if !sameRoom(c.Room(), room) {
					t.Fatalf("the room is %v; want %v", c.Room(), room)
				}
			}
		}
		wantRight(t, c)
		counts[-1] += c.Room().Epoch
	}
	for _, errno := range []api.Errno{-1, api.OK, api.ErrLink, api.ErrSign, api.ErrTwice, api.ErrAuth, api.ErrForm} {
		if counts[errno] < 10 {
			t.Errorf("there were only %d of %d", counts[errno], errno)
		}
	}
}

// wantRight fails a test unless promise 20.5 holds of a chain.
func wantRight(t *testing.T, c *Chain) {
	t.Helper()
	var events []api.Event
	var last api.Hash
	hub := 0
	for i, e := range c.Entries() {
		room, many, errno := fold.Run(events...)
		if many != i || errno != api.OK {
			t.Fatalf("Run of the first %d events = %d, %d", i, many, errno)
		}
		if i > 0 {
			hub = room.Hub
		}
		if e.Room != hall || e.Epoch != room.Epoch || e.Index != i || e.Prev != last {
			t.Errorf("the entry %d is %s", i, told(e))
		}
		text, _ := entry.Text(e)
		if errno := book.Verify(all(), hub, int64(i), text, e.Sig); errno != api.OK {
			t.Errorf("the entry %d is not the hub's, %d: %d", i, hub, errno)
		}
		last, _ = entry.Sum(e)
		f, errno := event.Parse(e.Event)
		if errno != api.OK || slices.Contains(events, f) {
			t.Errorf("the event %d: %d", i, errno)
		}
		events = append(events, f)
	}
	room, _, errno := fold.Run(events...)
	if errno != api.OK || !sameRoom(room, c.Room()) || last != c.Last() || room.Hub != c.Hub() {
		t.Errorf("the room is %v, %d; want %v", c.Room(), errno, room)
	}
	again := made(t, events...)
	if n := Common(c.Entries(), again.Entries()); n != c.Len() {
		t.Errorf("the same events have only %d entries in common", n)
	}
}
