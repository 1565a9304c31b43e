package keep

import (
	"fmt"
	"math"
	"math/rand"
	"slices"
	"strings"
	"testing"
	"unsafe"

	"palaver/api"
	"palaver/chain"
	"palaver/disk"
	"palaver/entry"
	"palaver/event"
	"palaver/handover"
	"palaver/head"
	"palaver/journal"
	"palaver/key"
	"palaver/octet"
	"palaver/store"
)

// The chapter's room and user, and another user.
const (
	hall = "!hall:0"
	ann  = "@ann:0"
	bob  = "@bob:1"
)

// height is that of most keys here: they sign sixteen texts.
const height = 4

// keyOf is the key of a server.
func keyOf(server int) api.Key {
	return api.Key{Seed: fmt.Sprint("server ", server), High: height}
}

// grant is a server's, by which it signs with a key at all times.
func grant(t *testing.T, server int, k api.Key) api.Grant {
	t.Helper()
	root, errno := key.Root(k)
	if errno != api.OK {
		t.Fatalf("Root(%v) = %d", k, errno)
	}
	return api.Grant{Server: server, To: api.MaxTime, High: k.High, Root: root}
}

// all is a book by which the servers 0 to 2 sign.
func all(t *testing.T) []api.Grant {
	t.Helper()
	var b []api.Grant
	for server := range 3 {
		b = append(b, grant(t, server, keyOf(server)))
	}
	return b
}

// of is an event of the chapter's room.
func of(kind api.EventKind, sender, key, body string, nonce int64) api.Event {
	return api.Event{Room: hall, Sender: sender, Kind: kind, Key: key, Body: body, Nonce: nonce}
}

// The events of most chains here: the room is made, and @ann:0 is in it.
var (
	create = of(api.EventCreate, ann, "", "", 0)
	join   = of(api.EventMember, ann, ann, "join", 0)
)

// say is a message.
func say(nonce int64) api.Event {
	return of(api.EventMessage, ann, "", "say", nonce)
}

// give is a handover.
func give(server int, nonce int64) api.Event {
	return of(api.EventHandover, ann, "", fmt.Sprint(server), nonce)
}

// bytes is an event's encoding.
func bytes(t *testing.T, e api.Event) string {
	t.Helper()
	s, errno := event.Bytes(e)
	if errno != api.OK {
		t.Fatalf("Bytes(%v) = %d", e, errno)
	}
	return s
}

// keepOf is the part of a server, with a disk of a size and the book of all servers.
func keepOf(t *testing.T, server, size int) *Keep {
	t.Helper()
	return newKeep(t, server, keyOf(server), all(t), size)
}

// newKeep is a part of the chapter's room.
func newKeep(t *testing.T, server int, k api.Key, b []api.Grant, size int) *Keep {
	t.Helper()
	x, errno := New(server, k, hall, b, size)
	if x == nil || errno != api.OK {
		t.Fatalf("New(%d, %v, .., %d) = %v, %d", server, k, size, x, errno)
	}
	return x
}

// makes has a part make entries of events.
func makes(t *testing.T, k *Keep, events ...api.Event) []api.Entry {
	t.Helper()
	var l []api.Entry
	for _, e := range events {
		made, errno := k.Make(bytes(t, e))
		if errno != api.OK {
			t.Fatalf("Make(%v) = %d", e, errno)
		}
		l = append(l, made)
	}
	return l
}

// takes has a part take entries.
func takes(t *testing.T, k *Keep, entries ...api.Entry) {
	t.Helper()
	for _, e := range entries {
		if errno := k.Take(e); errno != api.OK {
			t.Fatalf("Take of the entry %d = %d", e.Index, errno)
		}
	}
}

// signedBy is an entry, signed by a key.
func signedBy(t *testing.T, k api.Key, e api.Entry) api.Entry {
	t.Helper()
	r, errno := key.Make(k)
	if errno != api.OK {
		t.Fatalf("Make(%v) = %d", k, errno)
	}
	e, errno = entry.Sign(r, e)
	if errno != api.OK {
		t.Fatalf("Sign = %d", errno)
	}
	return e
}

// data are the bytes on a disk of a count, if it isn't 0, and entries.
func data(t *testing.T, count int, entries ...api.Entry) string {
	t.Helper()
	d, _ := disk.New(api.MaxDisk)
	if count > 0 {
		d, _ = store.PutCount(d, count)
	}
	for _, e := range entries {
		s, _ := entry.Bytes(e)
		var errno api.Errno
		if d, errno = store.PutEntry(d, s); errno != api.OK {
			t.Fatalf("PutEntry = %d", errno)
		}
	}
	return d.Data
}

// content is all that a part answers when it is asked, and what its disk has.
type content struct {
	server, hubNow, next, flushed int
	hub                           bool
	last                          api.Hash
	entries                       []api.Entry
	room                          string
	disk                          api.Disk
}

// asked is a part's content.
func asked(t *testing.T, k *Keep) content {
	t.Helper()
	entries := k.Entries()
	if k.Len() != len(entries) {
		t.Errorf("Len = %d, and there are %d entries", k.Len(), len(entries))
	}
	for _, e := range entries {
		if !k.Has(e.Event) {
			t.Errorf("Has of the event %d is false", e.Index)
		}
	}
	c := content{k.Server(), k.HubNow(), k.Next(), k.Flushed(), k.Hub(), k.Last(), entries, fmt.Sprint(k.Room()), api.Disk{}}
	if k != nil {
		c.disk = k.disk
	}
	return c
}

// told is a content with no more than the sizes of its texts.
func (c content) told() string {
	return fmt.Sprintf("{server %d hubNow %d next %d flushed %d hub %t last %x %d entries, room %s, %d bytes, %d synced, room for %d}",
		c.server, c.hubNow, c.next, c.flushed, c.hub, c.last[:4], len(c.entries), c.room, len(c.disk.Data), c.disk.Synced, c.disk.Room)
}

// is tells whether two contents are alike.
func (c content) is(other content) bool {
	entries := slices.Equal(c.entries, other.entries)
	c.entries, other.entries = nil, nil
	return entries && fmt.Sprint(c) == fmt.Sprint(other)
}

// wantContent fails a test unless a part has this content.
func wantContent(t *testing.T, k *Keep, want content) {
	t.Helper()
	if got := asked(t, k); !got.is(want) {
		t.Errorf("the part is %s; want %s", got.told(), want.told())
	}
}

// wantErrno fails a test unless a call answers this error, and nothing beside it.
func wantErrno[T comparable](t *testing.T, call string, got T, errno, want api.Errno) {
	t.Helper()
	var none T
	if got != none || errno != want {
		t.Errorf("%s = %.60q.., %d; want %d", call, fmt.Sprint(got), errno, want)
	}
}

// wantSame fails a test unless a call answers this error, nothing beside it, and changes nothing.
func wantSame(t *testing.T, k *Keep, call string, want api.Errno, run func() api.Errno) {
	t.Helper()
	before := asked(t, k)
	if errno := run(); errno != want {
		t.Errorf("%s = %d; want %d", call, errno, want)
	}
	wantContent(t, k, before)
}

// noTake, noMake, noHead and noDeal fail a test unless the call answers this error and changes nothing.
func noTake(t *testing.T, k *Keep, e api.Entry, want api.Errno) {
	t.Helper()
	wantSame(t, k, fmt.Sprintf("Take(%d, %.40q)", e.Index, e.Event), want, func() api.Errno { return k.Take(e) })
}

func noMake(t *testing.T, k *Keep, text string, want api.Errno) {
	t.Helper()
	wantSame(t, k, fmt.Sprintf("Make(%.60q)", text), want, func() api.Errno {
		e, errno := k.Make(text)
		wantErrno(t, "Make", e, errno, want)
		return errno
	})
}

func noHead(t *testing.T, k *Keep, want api.Errno) {
	t.Helper()
	wantSame(t, k, "Head", want, func() api.Errno {
		h, errno := k.Head()
		wantErrno(t, "Head", h, errno, want)
		return errno
	})
}

func noDeal(t *testing.T, k *Keep, d api.Deal, want api.Errno) {
	t.Helper()
	wantSame(t, k, fmt.Sprintf("Deal(%v)", d), want, func() api.Errno {
		d, errno := k.Deal(d)
		wantErrno(t, "Deal", d, errno, want)
		return errno
	})
}

// Promises 27.1 to 27.4: the chapter's examples.
func TestExamples(t *testing.T) {
	k := api.Key{Seed: "s", High: 1}
	b := []api.Grant{grant(t, 0, k)}
	_, errno := New(64, k, hall, b, 9000)
	if errno != api.ErrRange {
		t.Errorf("New of the server 64 = %d", errno)
	}
	x := newKeep(t, 0, k, b, 9000)
	first := bytes(t, create)
	noHead(t, x, api.ErrNone)
	if e := makes(t, x, create)[0]; e.Index != 0 {
		t.Errorf("the first entry's index is %d", e.Index)
	}
	x.Fail(0, 0)
	if x.Len() != 0 || x.Next() != 0 {
		t.Errorf("after Fail without Flush, Len = %d, Next = %d", x.Len(), x.Next())
	}
	e := makes(t, x, create)[0]
	noMake(t, x, "x", api.ErrCode)
	x.Flush()
	x.Fail(0, 0)
	if x.Len() != 1 || x.Next() != 1 || !x.Has(first) || x.Flushed() != 1 {
		t.Errorf("after Flush and Fail, Len = %d, Next = %d, Flushed = %d", x.Len(), x.Next(), x.Flushed())
	}
	noTake(t, x, e, api.ErrLink)
	h, errno := x.Head()
	if errno != api.OK || h.Sum != x.Last() || x.Next() != 2 {
		t.Errorf("Head = %v, %d; Next = %d", h, errno, x.Next())
	}
	noHead(t, x, api.ErrOver)
}

// what is given to New.
type given struct {
	server int
	k      api.Key
	room   string
	b      []api.Grant
	size   int
}

// Promise 27.1: the first error applies. Each fault is put together with each one that comes later.
func TestNew(t *testing.T) {
	type fault struct {
		change func(g *given)
		want   api.Errno
	}
	faults := [][]fault{
		{
			{func(g *given) { g.server = -1 }, api.ErrRange},
			{func(g *given) { g.server = 64 }, api.ErrRange},
			{func(g *given) { g.server = 1 << 32 }, api.ErrRange},
			{func(g *given) { g.server = math.MinInt }, api.ErrRange},
		},
		{
			{func(g *given) { g.k = api.Key{} }, api.ErrForm},
			{func(g *given) { g.k.High = 8 }, api.ErrForm},
			{func(g *given) { g.k.Next = 17 }, api.ErrForm},
			{func(g *given) { g.room = "hall" }, api.ErrForm},
			{func(g *given) { g.room = ann }, api.ErrForm},
			{func(g *given) { g.b = append(g.b, g.b[0]) }, api.ErrForm},
		},
		{
			{func(g *given) { g.size = -1 }, api.ErrRange},
			{func(g *given) { g.size = api.MaxDisk + 1 }, api.ErrRange},
			{func(g *given) { g.size = math.MaxInt }, api.ErrRange},
		},
	}
	for i, l := range faults {
		for _, f := range l {
			for _, later := range append(slices.Concat(faults[i+1:]...), fault{func(*given) {}, api.OK}) {
				g := given{0, keyOf(0), hall, all(t), 9000}
				later.change(&g)
				f.change(&g)
				if x, errno := New(g.server, g.k, g.room, g.b, g.size); x != nil || errno != f.want {
					t.Errorf("New(%d, %v, %q, %d grants, %d) = %v, %d; want %d", g.server, g.k, g.room, len(g.b), g.size, x, errno, f.want)
				}
			}
		}
	}
	for _, server := range []int{0, 1, 63} {
		for _, size := range []int{0, 9000, api.MaxDisk} {
			for _, next := range []int{0, 3, 16} {
				k := keyOf(1)
				k.Next = next
				x := newKeep(t, server, k, nil, size)
				wantContent(t, x, content{server: server, next: next, hub: server == 0, room: fmt.Sprint(api.Room{}), disk: api.Disk{Room: size}})
			}
		}
	}
}

// Promise 27.1: what is asked of the chain is what the chain answers.
func TestAsked(t *testing.T) {
	k := keepOf(t, 0, api.MaxDisk)
	c, _ := chain.New(hall, all(t))
	for i, e := range []api.Event{create, join, say(1), give(0, 1), say(2), give(2, 1)} {
		for _, other := range []api.Event{create, join, say(1), give(1, 1), of(api.EventMessage, bob, "", "", 0), of(api.EventMember, ann, bob, "third", 0)} {
			text := bytes(t, other)
			if _, want := c.Next(text); k.Allowed(text) != want || k.Has(text) != c.Has(text) {
				t.Errorf("ahead of the entry %d, Allowed(%v) = %d, Has = %t; want %d, %t", i, other, k.Allowed(text), k.Has(text), want, c.Has(text))
			}
		}
		if errno := k.Allowed("x"); errno != api.ErrCode {
			t.Errorf("Allowed of no event = %d", errno)
		}
		made := makes(t, k, e)[0]
		if errno := c.Append(made); errno != api.OK {
			t.Fatalf("Append = %d", errno)
		}
		if k.Len() != c.Len() || k.Last() != c.Last() || k.HubNow() != c.Hub() || fmt.Sprint(k.Room()) != fmt.Sprint(c.Room()) || !slices.Equal(k.Entries(), c.Entries()) {
			t.Errorf("after the entry %d, the part is %s", i, asked(t, k).told())
		}
		if k.Hub() != (c.Hub() == 0) {
			t.Errorf("after the entry %d, Hub = %t", i, k.Hub())
		}
	}
	if k.Hub() || k.Next() != 6 {
		t.Errorf("in the end, Hub = %t, Next = %d", k.Hub(), k.Next())
	}
	other := keepOf(t, 2, api.MaxDisk)
	if other.Hub() {
		t.Error("the server 2 is the hub of the server 0's room")
	}
	takes(t, other, k.Entries()...)
	if !other.Hub() || other.Next() != 0 {
		t.Errorf("after the handover, Hub = %t, Next = %d", other.Hub(), other.Next())
	}
}

// Promise 27.2: entries are taken by whichever server, and their records are put.
func TestTake(t *testing.T) {
	l := makes(t, keepOf(t, 0, api.MaxDisk), create, join, say(1), give(1, 1))
	for server := range 3 {
		k := keepOf(t, server, api.MaxDisk)
		for i, e := range l {
			takes(t, k, e)
			if k.disk.Data != data(t, 0, l[:i+1]...) || k.disk.Synced != 0 || k.Flushed() != 0 || k.Next() != 0 {
				t.Errorf("after %d entries, the part is %s", i+1, asked(t, k).told())
			}
		}
		if !slices.Equal(k.Entries(), l) {
			t.Errorf("the entries are %v", k.Entries())
		}
	}
}

// Promise 27.2: an entry is taken only if its record fits.
func TestTakeFull(t *testing.T) {
	l := makes(t, keepOf(t, 0, api.MaxDisk), create, join)
	one, both := len(data(t, 0, l[0])), len(data(t, 0, l...))
	for _, size := range []int{0, 1, one - 1, one, both - 1, both} {
		k := keepOf(t, 1, size)
		if size >= one {
			takes(t, k, l[0])
		} else {
			noTake(t, k, l[0], api.ErrFull)
		}
		if size >= both {
			takes(t, k, l[1])
		} else {
			noTake(t, k, l[1], api.ErrFull)
		}
	}
}

// Promise 27.2: the first error applies: an entry that is none, one whose record is too long or does not fit, and then what the chain says.
func TestTakeOrder(t *testing.T) {
	l := makes(t, keepOf(t, 0, api.MaxDisk), create, join, say(1))
	full := keepOf(t, 1, len(data(t, 0, l[:2]...)))
	roomy := keepOf(t, 1, api.MaxDisk)
	for _, k := range []*Keep{full, roomy} {
		takes(t, k, l[:2]...)
	}
	type try struct {
		e             api.Entry
		roomy, inFull api.Errno
	}
	with := func(change func(e *api.Entry)) api.Entry {
		e := l[2]
		change(&e)
		return e
	}
	long := strings.Repeat("x", api.MaxText+1)
	for _, c := range []try{
		{api.Entry{}, api.ErrForm, api.ErrForm},
		{with(func(e *api.Entry) { e.Index = -1 }), api.ErrForm, api.ErrForm},
		{with(func(e *api.Entry) { e.Event = long }), api.ErrForm, api.ErrForm},
		{with(func(e *api.Entry) { e.Sig = long }), api.ErrForm, api.ErrForm},
		{with(func(e *api.Entry) { e.Event = long[1:] }), api.ErrLong, api.ErrLong},    // its encoding is too long
		{with(func(e *api.Entry) { e.Event = long[2000:] }), api.ErrSign, api.ErrFull}, // its encoding fits
		{with(func(e *api.Entry) { e.Event = long[1200:] }), api.ErrLong, api.ErrLong},
		{with(func(e *api.Entry) { e.Index = 1 }), api.ErrLink, api.ErrFull},
		{with(func(e *api.Entry) { e.Room = "!other:0" }), api.ErrLink, api.ErrFull},
		{with(func(e *api.Entry) { e.Epoch = 1 }), api.ErrLink, api.ErrFull},
		{l[1], api.ErrLink, api.ErrFull},
		{with(func(e *api.Entry) { e.Sig = "" }), api.ErrForm, api.ErrFull},
		{with(func(e *api.Entry) { e.Sig = l[1].Sig }), api.ErrSign, api.ErrFull},
		{signedBy(t, keyOf(1), l[2]), api.ErrSign, api.ErrFull},
		{signedBy(t, keyOf(0), with(func(e *api.Entry) { e.Event = "x" })), api.ErrCode, api.ErrFull},
		{signedBy(t, keyOf(0), with(func(e *api.Entry) { e.Event = l[0].Event })), api.ErrTwice, api.ErrFull},
		{signedBy(t, keyOf(0), with(func(e *api.Entry) { e.Event = bytes(t, of(api.EventMessage, bob, "", "", 0)) })), api.ErrAuth, api.ErrFull},
	} {
		noTake(t, roomy, c.e, c.roomy)
		noTake(t, full, c.e, c.inFull)
	}
	takes(t, roomy, l[2])
}

// Promise 27.2: what the record of an entry that is too long for it is refused with, where its encoding is not too long.
func TestTakeLongRecord(t *testing.T) {
	k := keepOf(t, 1, api.MaxDisk)
	e := api.Entry{Room: hall, Sig: strings.Repeat("x", 1200)}
	var long, good int
	for n := api.MaxText - 1400; n < api.MaxText-1200; n++ {
		e.Event = strings.Repeat("x", n)
		s, errno := entry.Bytes(e)
		if errno != api.OK {
			t.Fatalf("Bytes = %d", errno)
		}
		record, errno := octet.List("e", s)
		want := errno
		if errno == api.OK {
			_, want = journal.Bytes(record)
		}
		if want != api.ErrLong {
			good++
			want = api.ErrForm // the signature's
		} else {
			long++
		}
		noTake(t, k, e, want)
	}
	if good < 10 || long < 10 {
		t.Errorf("only %d records were good, and %d too long", good, long)
	}
}

// Promise 27.2: Make signs what the chain says, puts the count and the entry, and appends it.
func TestMake(t *testing.T) {
	for _, start := range []int{0, 5} {
		first := keyOf(0)
		first.Next = start
		k := newKeep(t, 0, first, all(t), api.MaxDisk)
		c, _ := chain.New(hall, all(t))
		want := ""
		for i, e := range []api.Event{create, join, say(1), give(0, 1), say(2)} {
			made := makes(t, k, e)[0]
			bare, _ := c.Next(bytes(t, e))
			now := first
			now.Next = start + i
			if made != signedBy(t, now, bare) {
				t.Errorf("the entry %d is another one", i)
			}
			if errno := c.Append(made); errno != api.OK {
				t.Fatalf("Append = %d", errno)
			}
			want += data(t, start+i+1, made)
			if k.disk != (api.Disk{Data: want, Room: api.MaxDisk}) || k.Next() != start+i+1 || k.Flushed() != 0 || k.Len() != i+1 {
				t.Errorf("after the entry %d, the part is %s", i, asked(t, k).told())
			}
		}
	}
}

// Promise 27.2: signing needs room for both records, to the byte; where there is none, nothing is signed, and there may be room for another event.
func TestMakeFull(t *testing.T) {
	made := makes(t, keepOf(t, 0, api.MaxDisk), create, join, say(1))
	long := of(api.EventMessage, ann, "", strings.Repeat("x", api.MaxBody), 1)
	need := len(data(t, 1, made[0])) + len(data(t, 2, made[1])) + len(data(t, 3, made[2]))
	for _, size := range []int{need, need + 1} {
		k := keepOf(t, 0, size)
		makes(t, k, create, join)
		noMake(t, k, bytes(t, long), api.ErrFull)
		makes(t, k, say(1))
		noMake(t, k, bytes(t, say(2)), api.ErrFull)
		noHead(t, k, map[int]api.Errno{need: api.ErrFull, need + 1: api.ErrFull}[size])
	}
	for _, less := range []int{1, 2, len(data(t, 0, made[2])), len(data(t, 0, made[2])) + 1} {
		k := keepOf(t, 0, need-less)
		makes(t, k, create, join)
		noMake(t, k, bytes(t, say(1)), api.ErrFull)
		if k.Next() != 2 {
			t.Errorf("with %d bytes less, Next = %d", less, k.Next())
		}
	}
	for size := range 3 {
		noMake(t, keepOf(t, 0, size), bytes(t, create), api.ErrFull)
	}
}

// Promise 27.2: the first error applies.
func TestMakeOrder(t *testing.T) {
	l := makes(t, keepOf(t, 0, api.MaxDisk), create, join, say(1))
	need := len(data(t, 0, l...))
	over := keyOf(0)
	over.Next = 16
	events := map[string]api.Errno{
		"":                        api.ErrCode,
		"x":                       api.ErrCode,
		bytes(t, say(2)) + "\x00": api.ErrCode,
		bytes(t, say(1)):          api.ErrTwice,
		bytes(t, create):          api.ErrTwice,
		bytes(t, of(api.EventMessage, bob, "", "", 0)):              api.ErrAuth,
		bytes(t, of(api.EventMember, ann, bob, "third", 0)):         api.ErrForm,
		bytes(t, api.Event{Room: "!other:0", Sender: ann, Kind: 6}): api.ErrAuth,
		strings.Repeat("x", 1<<20):                                  api.ErrCode,
	}
	for _, size := range []int{need, need + 5, api.MaxDisk} {
		participant := keepOf(t, 1, size)
		hub, used := keepOf(t, 0, size), newKeep(t, 0, over, all(t), size)
		for _, k := range []*Keep{participant, hub, used} {
			takes(t, k, l...)
		}
		for text, want := range events {
			noMake(t, participant, text, api.ErrState)
			noMake(t, hub, text, want)
			noMake(t, used, text, want)
		}
		noMake(t, participant, bytes(t, say(2)), api.ErrState)
		noMake(t, used, bytes(t, say(2)), api.ErrOver)
		if size == api.MaxDisk {
			makes(t, hub, say(2))
		} else {
			noMake(t, hub, bytes(t, say(2)), api.ErrFull)
		}
	}
}

// Promise 27.2: whoever handed over makes no more entries, and who was handed to does.
func TestMakeHandover(t *testing.T) {
	zero, one := keepOf(t, 0, api.MaxDisk), keepOf(t, 1, api.MaxDisk)
	takes(t, one, makes(t, zero, create, join)...)
	noMake(t, one, bytes(t, say(1)), api.ErrState)
	takes(t, one, makes(t, zero, give(1, 1))...)
	noMake(t, zero, bytes(t, say(1)), api.ErrState)
	l := makes(t, one, say(1), give(0, 2))
	if l[0].Epoch != 1 || l[1].Epoch != 1 || l[1].Index != 4 {
		t.Errorf("the entries are of the epochs %d and %d", l[0].Epoch, l[1].Epoch)
	}
	takes(t, zero, l...)
	noMake(t, one, bytes(t, say(2)), api.ErrState)
	makes(t, zero, say(2))
}

// Promise 27.2: what the book does not let the hub sign is signed, and nothing else happens.
func TestMakeRefused(t *testing.T) {
	lower := keyOf(0)
	lower.High = 2
	later := grant(t, 0, keyOf(0))
	later.From = 1
	for _, c := range []struct {
		b    []api.Grant
		want api.Errno
	}{
		{nil, api.ErrNone},
		{[]api.Grant{grant(t, 1, keyOf(0))}, api.ErrNone},
		{[]api.Grant{later}, api.ErrNone},
		{[]api.Grant{grant(t, 0, keyOf(1))}, api.ErrSign},
		{[]api.Grant{grant(t, 0, lower)}, api.ErrForm},
	} {
		k := newKeep(t, 0, keyOf(0), c.b, api.MaxDisk)
		want := asked(t, k)
		for i := range 16 {
			e, errno := k.Make(bytes(t, create))
			wantErrno(t, "Make", e, errno, c.want)
			want.next = i + 1
			wantContent(t, k, want)
		}
		noMake(t, k, bytes(t, create), api.ErrOver)
		k.Flush()
		k.Fail(0, 0)
		want.next = 0
		wantContent(t, k, want)
	}
}

// Promise 27.3: Head signs what the last entry is, and puts the count.
func TestHead(t *testing.T) {
	k := keepOf(t, 0, api.MaxDisk)
	noHead(t, k, api.ErrNone)
	want := ""
	for i, e := range []api.Event{create, join, say(1)} {
		made := makes(t, k, e)[0]
		bare, _ := head.Of(made)
		now := keyOf(0)
		now.Next = 2*i + 1
		r, _ := key.Make(now)
		signed, _ := head.Sign(r, bare)
		h, errno := k.Head()
		if h != signed || h.Sum != k.Last() || h.Index != i || errno != api.OK {
			t.Errorf("Head = %v, %d; want %v", h, errno, signed)
		}
		if errno := head.Verify(all(t), 0, h); errno != api.OK {
			t.Errorf("Verify of the head = %d", errno)
		}
		want += data(t, 2*i+1, made) + data(t, 2*i+2)
		if k.disk.Data != want || k.disk.Synced != 0 || k.Next() != 2*i+2 || k.Len() != i+1 {
			t.Errorf("after the head %d, the part is %s", i, asked(t, k).told())
		}
	}
}

// Promise 27.3: the first error of Head applies.
func TestHeadOrder(t *testing.T) {
	over := keyOf(0)
	over.Next = 16
	size := len(data(t, 0, makes(t, keepOf(t, 0, api.MaxDisk), create, join, give(0, 1))...))
	mark := len(data(t, 1))
	for _, server := range []int{0, 1} {
		noHead(t, keepOf(t, server, 0), api.ErrNone)
		noHead(t, newKeep(t, server, over, all(t), 0), api.ErrNone)
	}
	l := makes(t, keepOf(t, 0, api.MaxDisk), create, join, give(0, 1))
	for _, more := range []int{0, mark - 1, mark} {
		participant, hub, used := keepOf(t, 1, size+more), keepOf(t, 0, size+more), newKeep(t, 0, over, all(t), size+more)
		for _, k := range []*Keep{participant, hub, used} {
			takes(t, k, l...)
		}
		noHead(t, participant, api.ErrState)
		noHead(t, hub, api.ErrLink) // the last entry is one of the epoch before, also if its hub is the same
		noHead(t, used, api.ErrLink)
	}
	size = len(data(t, 0, l[:2]...))
	for _, more := range []int{0, mark - 1, mark} {
		participant, hub, used := keepOf(t, 1, size+more), keepOf(t, 0, size+more), newKeep(t, 0, over, all(t), size+more)
		for _, k := range []*Keep{participant, hub, used} {
			takes(t, k, l[:2]...)
		}
		noHead(t, participant, api.ErrState)
		noHead(t, used, api.ErrOver)
		if more < mark {
			noHead(t, hub, api.ErrFull)
		} else if _, errno := hub.Head(); errno != api.OK || len(hub.disk.Data) != size+mark {
			t.Errorf("Head = %d", errno)
		}
	}
	zero, one := keepOf(t, 0, api.MaxDisk), keepOf(t, 1, api.MaxDisk)
	takes(t, one, makes(t, zero, create, join, give(1, 1))...)
	noHead(t, zero, api.ErrState)
	noHead(t, one, api.ErrLink) // the entry is one of another hub
	takes(t, zero, makes(t, one, say(1))...)
	if _, errno := one.Head(); errno != api.OK {
		t.Errorf("Head = %d", errno)
	}
	noHead(t, zero, api.ErrState)
}

// Promise 27.3: a head is signed whatever the book says.
func TestHeadWithoutGrant(t *testing.T) {
	b := []api.Grant{grant(t, 0, keyOf(0))}
	b[0].To = 0
	k := newKeep(t, 0, keyOf(1), b, api.MaxDisk)
	takes(t, k, makes(t, keepOf(t, 0, api.MaxDisk), create)...)
	if h, errno := k.Head(); h.Sum != k.Last() || k.Next() != 1 || errno != api.OK {
		t.Errorf("Head = %v, %d", h, errno)
	}
}

// deal is a deal from the server 0 to the server 1.
func deal(kind api.DealKind) api.Deal {
	return api.Deal{Kind: kind, Room: hall, Index: 3, Hub: 0, Next: 1}
}

// Promise 27.3: Deal signs, and puts the count.
func TestDeal(t *testing.T) {
	for server, kind := range []api.DealKind{api.DealOffer, api.DealAccept} {
		k := keepOf(t, server, api.MaxDisk)
		want := ""
		for i := range 16 {
			d := deal(kind)
			d.Index = i
			d.Sig = "old"
			got, errno := k.Deal(d)
			now := keyOf(server)
			now.Next = i
			r, _ := key.Make(now)
			signed, _ := handover.Sign(r, d)
			if got != signed || errno != api.OK {
				t.Errorf("Deal(%v) = %v, %d", d, got, errno)
			}
			if errno := handover.Verify(all(t), got); errno != api.OK {
				t.Errorf("Verify of the deal = %d", errno)
			}
			want += data(t, i+1)
			if k.disk != (api.Disk{Data: want, Room: api.MaxDisk}) || k.Next() != i+1 || k.Len() != 0 {
				t.Errorf("after the deal %d, the part is %s", i, asked(t, k).told())
			}
		}
		noDeal(t, k, deal(kind), api.ErrOver)
	}
}

// Promise 27.3: the first error of Deal applies; whose deal it is does not matter.
func TestDealOrder(t *testing.T) {
	over := keyOf(0)
	over.Next = 16
	mark := len(data(t, 1))
	wrong := []api.Deal{{}, deal(api.DealNone), deal(api.DealCount)}
	for _, change := range []func(d *api.Deal){
		func(d *api.Deal) { d.Room = "hall" },
		func(d *api.Deal) { d.Next = d.Hub },
		func(d *api.Deal) { d.Epoch = -1 },
		func(d *api.Deal) { d.Index = api.MaxEvents + 1 },
		func(d *api.Deal) { d.Sig = strings.Repeat("x", api.MaxText+1) },
	} {
		d := deal(api.DealOffer)
		change(&d)
		wrong = append(wrong, d)
	}
	for _, size := range []int{0, mark - 1, mark} {
		hub, used := keepOf(t, 0, size), newKeep(t, 0, over, all(t), size)
		for _, d := range wrong {
			noDeal(t, hub, d, api.ErrForm)
			noDeal(t, used, d, api.ErrForm)
		}
		noDeal(t, used, deal(api.DealOffer), api.ErrOver)
		if size < mark {
			noDeal(t, hub, deal(api.DealOffer), api.ErrFull)
		}
	}
	for server := range 3 {
		for _, kind := range []api.DealKind{api.DealOffer, api.DealAccept} {
			d := deal(kind)
			d.Room, d.Epoch, d.Hub, d.Next = "!other:9", 7, 5, 63
			k := keepOf(t, server, mark)
			if got, errno := k.Deal(d); got.Sig == "" || errno != api.OK {
				t.Errorf("Deal(%v) of the server %d = %v, %d", d, server, got, errno)
			}
			noDeal(t, k, d, api.ErrFull)
		}
	}
}

// Promise 27.4: what was put is flushed, and nothing else changes.
func TestFlush(t *testing.T) {
	k := keepOf(t, 0, api.MaxDisk)
	k.Flush()
	for i, e := range []api.Event{create, join, say(1)} {
		makes(t, k, e)
		if k.Flushed() != i {
			t.Errorf("Flushed = %d; want %d", k.Flushed(), i)
		}
		want := asked(t, k)
		want.flushed, want.disk.Synced = i+1, len(want.disk.Data)
		for range 2 {
			k.Flush()
			wantContent(t, k, want)
		}
	}
	k.Head()
	want := asked(t, k)
	want.disk.Synced = len(want.disk.Data)
	k.Flush()
	wantContent(t, k, want)
}

// story has a part make two entries, flush them, and then make two more and a head, and take nothing else.
func story(t *testing.T) (*Keep, []api.Entry) {
	t.Helper()
	k := keepOf(t, 0, api.MaxDisk)
	l := makes(t, k, create, join)
	k.Flush()
	l = append(l, makes(t, k, say(1), say(2))...)
	if _, errno := k.Head(); errno != api.OK {
		t.Fatalf("Head = %d", errno)
	}
	return k, l
}

// Promises 27.4 and 27.6: a crash leaves what the disk has then, to the byte, and all of it is flushed.
func TestFail(t *testing.T) {
	k, l := story(t)
	counts := []int{2, 3, 3, 4, 4, 5} // the Next after so many whole records that were not flushed
	ends := []int{0, len(data(t, 3)), len(data(t, 3, l[2]))}
	ends = append(ends, ends[2]+len(data(t, 4)), ends[2]+len(data(t, 4, l[3])))
	ends = append(ends, ends[4]+len(data(t, 5)))
	loose := len(k.disk.Data) - k.disk.Synced
	if loose != ends[5] {
		t.Fatalf("%d bytes are not flushed; want %d", loose, ends[5])
	}
	for keep := -1; keep <= loose+1; keep++ {
		near := slices.ContainsFunc(ends, func(end int) bool { return end-2 <= keep && keep <= end+2 })
		if !near && keep%311 != 0 {
			continue
		}
		for _, bits := range []byte{0, 1, 0xff} {
			k, l := story(t)
			k.Fail(keep, bits)
			whole := 0
			for whole < 5 && ends[whole+1] <= keep {
				whole++
			}
			// The last byte of a record belongs to its checksum.
			if cut := min(keep, loose); bits != 0 && whole > 0 && cut == ends[whole] {
				whole--
			}
			many := 2 + whole/2
			if k.Next() != counts[whole] || k.Len() != many || k.Flushed() != many || !slices.Equal(k.Entries(), l[:many]) {
				t.Errorf("after Fail(%d, %d), the part is %s; want %d entries and Next %d", keep, bits, asked(t, k).told(), many, counts[whole])
			}
			if k.disk.Synced != len(k.disk.Data) || k.disk.Room != api.MaxDisk {
				t.Errorf("after Fail(%d, %d), the disk has %d bytes, %d of them synced", keep, bits, len(k.disk.Data), k.disk.Synced)
			}
			want := asked(t, k)
			k.Fail(keep, bits)
			wantContent(t, k, want)
			makes(t, k, say(3))
		}
	}
}

// Promise 27.4: keep is brought into its range, whatever it is.
func TestFailRange(t *testing.T) {
	for _, keep := range []int{-1, math.MinInt, -1 << 32} {
		k, _ := story(t)
		k.Fail(keep, 0xff)
		if k.Len() != 2 || k.Next() != 2 {
			t.Errorf("after Fail(%d, ..), the part is %s", keep, asked(t, k).told())
		}
	}
	for _, keep := range []int{math.MaxInt, 1 << 32} {
		k, l := story(t)
		k.Fail(keep, 0)
		if k.Next() != 5 || !slices.Equal(k.Entries(), l) {
			t.Errorf("after Fail(%d, 0), the part is %s", keep, asked(t, k).told())
		}
	}
}

// Promise 27.4: the key does not go back behind what it was in New.
func TestFailNext(t *testing.T) {
	first := keyOf(0)
	first.Next = 7
	k := newKeep(t, 0, first, all(t), api.MaxDisk)
	makes(t, k, create, join)
	k.Fail(0, 0)
	if k.Next() != 7 || k.Len() != 0 {
		t.Errorf("Next = %d, Len = %d; want 7, 0", k.Next(), k.Len())
	}
	e := makes(t, k, create)[0]
	if e.Sig[0] != 7 {
		t.Errorf("the index of the signature is %d", e.Sig[0])
	}
	k.Fail(len(data(t, 8)), 0) // the count alone
	if k.Next() != 8 || k.Len() != 0 {
		t.Errorf("Next = %d, Len = %d; want 8, 0", k.Next(), k.Len())
	}
	k.Fail(0, 0)
	if k.Next() != 8 {
		t.Errorf("Next = %d; want 8", k.Next())
	}
}

// Promise 27.4: a restart leaves the chain, the room and the book as they were.
func TestFailRoom(t *testing.T) {
	zero, one := keepOf(t, 0, api.MaxDisk), keepOf(t, 1, api.MaxDisk)
	takes(t, one, makes(t, zero, create, join, give(1, 1))...)
	takes(t, zero, makes(t, one, say(1))...)
	for _, k := range []*Keep{zero, one} {
		k.Flush()
		want := asked(t, k)
		k.Fail(0, 0)
		wantContent(t, k, want)
	}
	noMake(t, zero, bytes(t, say(2)), api.ErrState)
	takes(t, zero, makes(t, one, say(2))...)
}

// Promise 27.4: compacting flushes, leaves all that is asked as it was, and makes room.
func TestCompact(t *testing.T) {
	k, l := story(t)
	want := asked(t, k)
	for range 2 {
		if errno := k.Compact(); errno != api.OK {
			t.Errorf("Compact = %d", errno)
		}
		text := data(t, 5, l...)
		want.flushed, want.disk = 4, api.Disk{Data: text, Synced: len(text), Room: api.MaxDisk}
		wantContent(t, k, want)
		k.Fail(0, 0xff)
		wantContent(t, k, want)
	}
	l = append(l, makes(t, k, say(3))...)
	k.Flush()
	k.Fail(0, 0)
	if !slices.Equal(k.Entries(), l) || k.Next() != 6 {
		t.Errorf("the part is %s", asked(t, k).told())
	}

	k = keepOf(t, 0, 100)
	for errno := api.OK; errno == api.OK; {
		_, errno = k.Deal(deal(api.DealOffer))
	}
	noDeal(t, k, deal(api.DealOffer), api.ErrFull)
	signed := k.Next()
	if errno := k.Compact(); errno != api.OK || k.Next() != signed {
		t.Errorf("Compact = %d, Next = %d; want %d", errno, k.Next(), signed)
	}
	if _, errno := k.Deal(deal(api.DealOffer)); errno != api.OK {
		t.Errorf("Deal after Compact = %d", errno)
	}
	empty := keepOf(t, 0, 0)
	want = asked(t, empty)
	if errno := empty.Compact(); errno != api.OK {
		t.Errorf("Compact of nothing = %d", errno)
	}
	wantContent(t, empty, want)
}

// Promise 27.5: a change of what came in, or of what was answered, changes no part, also after a restart.
func TestNewMemory(t *testing.T) {
	b := all(t)
	k, _ := New(0, keyOf(0), hall, b, api.MaxDisk)
	clear(b)
	makes(t, k, create, join)
	k.Flush()
	k.Fail(0, 0)
	makes(t, k, say(1))
	want := asked(t, k)
	clear(k.Entries())
	_ = append(k.Entries(), api.Entry{})
	clear(k.Room().State)
	wantContent(t, k, want)
}

// Promise 27.5: nor do texts lie in memory that came in or was answered.
func TestNewTexts(t *testing.T) {
	room, seed := strings.Clone(hall), strings.Repeat("seed", 8)
	k, _ := New(0, api.Key{Seed: seed, High: height}, room, []api.Grant{grant(t, 0, api.Key{Seed: seed, High: height})}, api.MaxDisk)
	apart(t, "New", k.room, room)
	apart(t, "New", k.first.Seed, seed)
	text := bytes(t, create)
	e, _ := k.Make(text)
	kept, again := k.Entries()[0], k.Entries()[0]
	apart(t, "Make", e.Event, text)
	apart(t, "Make", e.Room, k.room)
	for _, other := range []api.Entry{e, again} {
		apart(t, "Entries", kept.Room, other.Room)
		apart(t, "Entries", kept.Event, other.Event)
		apart(t, "Entries", kept.Sig, other.Sig)
	}
	h, _ := k.Head()
	apart(t, "Head", h.Room, kept.Room)
	d := deal(api.DealOffer)
	d.Room = room
	signed, _ := k.Deal(d)
	apart(t, "Deal", signed.Room, room)
	other := newKeep(t, 1, keyOf(1), []api.Grant{grant(t, 0, api.Key{Seed: seed, High: height})}, api.MaxDisk)
	takes(t, other, e)
	apart(t, "Take", other.Entries()[0].Event, e.Event)
}

// apart fails a test if two texts are one in memory.
func apart(t *testing.T, call, a, b string) {
	t.Helper()
	if unsafe.StringData(a) == unsafe.StringData(b) {
		t.Errorf("%s: the text %.40q lies in other memory", call, a)
	}
}

// A part that New did not make takes nothing, signs nothing, and finds nothing; no call panics.
func TestNone(t *testing.T) {
	first := makes(t, keepOf(t, 0, api.MaxDisk), create)[0]
	for _, k := range []*Keep{nil, {}} {
		for range 2 {
			wantContent(t, k, content{hub: true, room: fmt.Sprint(api.Room{})})
			noTake(t, k, api.Entry{}, api.ErrForm)
			noTake(t, k, first, api.ErrFull)
			noMake(t, k, "x", api.ErrCode)
			noMake(t, k, first.Event, api.ErrAuth)
			noHead(t, k, api.ErrNone)
			noDeal(t, k, api.Deal{}, api.ErrForm)
			noDeal(t, k, deal(api.DealOffer), api.ErrOver)
			if k.Has("") || k.Has(first.Event) || k.Allowed(first.Event) != api.ErrAuth {
				t.Error("a part that is none has an event, or allows one")
			}
			k.Flush()
			k.Fail(3, 1)
			if errno := k.Compact(); errno != api.OK {
				t.Errorf("Compact = %d", errno)
			}
		}
	}
}

// deeds are what was signed, by the indices of the key.
type deeds map[int]string

// Promise 27.6: whatever happens, a crash leaves a beginning with all that was flushed, and no index that signed what was flushed signs again.
func TestNothingLost(t *testing.T) {
	source := rand.New(rand.NewSource(1))
	first := api.Key{Seed: "s", High: 5}
	b := []api.Grant{grant(t, 0, first)}
	crashes, lost, over := 0, 0, 0
	for range 10 {
		k := newKeep(t, 0, first, b, 60000)
		now, safe := deeds{}, deeds{}
		note := func(sig string, errno api.Errno) {
			if errno == api.ErrOver {
				over++
			}
			if errno != api.OK {
				return
			}
			i := int(sig[0])
			if _, again := safe[i]; again {
				t.Fatalf("the index %d signs again", i)
			}
			now[i] = sig
		}
		flush := func() {
			for i, sig := range now {
				safe[i] = sig
			}
		}
		for step := range 90 {
			switch source.Intn(8) {
			case 0, 1, 2, 3:
				e := say(int64(step))
				if k.Len() < 2 {
					e = []api.Event{create, join}[k.Len()]
				}
				made, errno := k.Make(bytes(t, e))
				note(made.Sig, errno)
			case 4:
				h, errno := k.Head()
				note(h.Sig, errno)
			case 5:
				d, errno := k.Deal(deal(api.DealOffer))
				note(d.Sig, errno)
			case 6:
				if source.Intn(3) == 0 {
					k.Compact()
				}
				k.Flush()
				flush()
			case 7:
				before, flushed := k.Entries(), k.Flushed()
				k.Fail(source.Intn(3000), byte(source.Intn(2)))
				crashes++
				l := k.Entries()
				if len(l) < flushed || chain.Common(l, before) != len(l) {
					t.Fatalf("a crash left %d of %d entries, of which %d were flushed", chain.Common(l, before), len(before), flushed)
				}
				if len(l) < len(before) {
					lost++
				}
				// What is there after a crash is flushed.
				for i := range now {
					if i >= k.Next() {
						delete(now, i)
					}
				}
				flush()
			}
		}
	}
	if crashes < 60 || lost < 15 || over < 10 {
		t.Errorf("there were only %d crashes, of which %d lost entries, and %d keys used up", crashes, lost, over)
	}
}
