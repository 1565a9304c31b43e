package server

import (
	"fmt"
	"math"
	"slices"
	"strings"
	"testing"
	"unsafe"

	"palaver/api"
	"palaver/disk"
	"palaver/entry"
	"palaver/event"
	"palaver/handover"
	"palaver/head"
	"palaver/key"
	"palaver/proof"
	"palaver/redact"
	"palaver/store"
	"palaver/wire"
)

// The chapter's room and user, and another user.
const (
	hall = "!hall:0"
	ann  = "@ann:0"
	bob  = "@bob:1"
)

const (
	height = 4   // of most keys here: they sign sixteen texts
	gap    = 3   // of the outboxes
	peers  = 3   // servers of most rooms here
	size   = 1e5 // of the disks: there is room for more than is signed
)

// keyOf is the key of a server.
func keyOf(server int) api.Key {
	return api.Key{Seed: fmt.Sprint("server ", server), High: height}
}

// grant is a server's, by which it signs with a key at all times.
func grant(t *testing.T, server int, k api.Key) api.Grant {
	t.Helper()
	root, errno := key.Root(k)
	if errno != api.OK {
		t.Fatalf("Root(%v) = %d", k, errno)
	}
	return api.Grant{Server: server, To: api.MaxTime, High: k.High, Root: root}
}

// all is a book by which the servers sign.
func all(t *testing.T) []api.Grant {
	t.Helper()
	var b []api.Grant
	for server := range peers {
		b = append(b, grant(t, server, keyOf(server)))
	}
	return b
}

// of is an event of the chapter's room.
func of(kind api.EventKind, sender, key, body string, nonce int64) api.Event {
	return api.Event{Room: hall, Sender: sender, Kind: kind, Key: key, Body: body, Nonce: nonce}
}

// bytes is an event's encoding.
func bytes(e api.Event) string {
	s, errno := event.Bytes(e)
	if errno != api.OK {
		panic("no event")
	}
	return s
}

// The events of most chains here: the room is made, and @ann:0 is in it.
var (
	create = bytes(of(api.EventCreate, ann, "", "", 0))
	join   = bytes(of(api.EventMember, ann, ann, "join", 0))
)

// Events that the rules refuse: a message of somebody who is not in the room, and a membership that is none.
var (
	stranger = bytes(of(api.EventMessage, bob, "", "", 0))
	third    = bytes(of(api.EventMember, ann, bob, "third", 0))
)

// say is a message.
func say(nonce int64) string {
	return bytes(of(api.EventMessage, ann, "", "say", nonce))
}

// give is a handover.
func give(server int, nonce int64) string {
	return bytes(of(api.EventHandover, ann, "", fmt.Sprint(server), nonce))
}

// sumOf is the hash of all of an event.
func sumOf(text string) api.Hash {
	e, _ := event.Parse(text)
	sum, errno := redact.Content(e)
	if errno != api.OK {
		panic("no event")
	}
	return sum
}

// must is a body, or whatever else is made without an error.
func must[T any](thing T, errno api.Errno) T {
	if errno != api.OK {
		panic(fmt.Sprint("there is none: ", errno))
	}
	return thing
}

// sign is a text's signature by the key of a server, at any of its indices.
func sign(server, index int, text string) string {
	k := keyOf(server)
	k.Next = index
	_, sig, errno := key.Sign(k, text)
	if errno != api.OK {
		panic("no signature")
	}
	return sig
}

// signedEntry is an entry with the signature of a server.
func signedEntry(server int, e api.Entry) api.Entry {
	e.Sig = sign(server, e.Index%16, must(entry.Text(e)))
	return e
}

// signedHead is a head with the signature of a server.
func signedHead(server int, h api.Head) api.Head {
	h.Sig = sign(server, h.Index%16, must(head.Text(h)))
	return h
}

// signedDeal is a deal with the signature of a server.
func signedDeal(server int, d api.Deal) api.Deal {
	d.Sig = sign(server, d.Index%16, must(handover.Text(d)))
	return d
}

// lie is the head of an epoch and an index with a hash of which there is no entry, signed by a server.
func lie(server, epoch, index int) api.Head {
	return signedHead(server, api.Head{Room: hall, Epoch: epoch, Index: index, Sum: api.Hash{1}})
}

// proofOf is the proof against a server of two heads that it signed.
func proofOf(server int, a, b api.Head) api.Proof {
	return api.Proof{Server: server, A: must(head.Text(a)), SigA: a.Sig, B: must(head.Text(b)), SigB: b.Sig}
}

// lies is a proof against a server: two hashes of an epoch and an index.
func lies(server, epoch, index int) api.Proof {
	a := lie(server, epoch, index)
	b := a
	b.Sum[0] = 2
	return proofOf(server, a, signedHead(server, b))
}

// The messages of all kinds.
func submit(from, to int, text string) api.Message {
	return api.Message{Kind: api.MsgSubmit, From: from, To: to, Body: text}
}

func reject(from, to int, text string, code api.Errno) api.Message {
	return api.Message{Kind: api.MsgReject, From: from, To: to, Body: must(wire.Reject(sumOf(text), code))}
}

func enter(from, to int, e api.Entry) api.Message {
	return api.Message{Kind: api.MsgEntry, From: from, To: to, Body: must(entry.Bytes(e))}
}

func state(from, to int, h api.Head) api.Message {
	return api.Message{Kind: api.MsgHead, From: from, To: to, Body: must(head.Bytes(h))}
}

func ask(from, to, index int) api.Message {
	return api.Message{Kind: api.MsgAsk, From: from, To: to, Body: must(wire.Ask(index))}
}

func prove(from, to int, p api.Proof) api.Message {
	return api.Message{Kind: api.MsgProof, From: from, To: to, Body: must(proof.Bytes(p))}
}

func deal(from, to int, d api.Deal) api.Message {
	return api.Message{Kind: api.MsgDeal, From: from, To: to, Body: must(handover.Bytes(d))}
}

// newServer is a server of the chapter's room, with the key of its number and a disk of a size.
func newServer(t *testing.T, n int) *Server {
	t.Helper()
	return made(t, n, keyOf(n), all(t), size)
}

// made is a server of the chapter's room.
func made(t *testing.T, n int, k api.Key, b []api.Grant, size int) *Server {
	t.Helper()
	s, errno := New(n, peers, k, hall, b, size, gap)
	if s == nil || errno != api.OK {
		t.Fatalf("New(%d, ..) = %v, %d", n, s, errno)
	}
	return s
}

// takes has a server accept events of clients, and drops what goes out.
func takes(t *testing.T, s *Server, events ...string) {
	t.Helper()
	for _, text := range events {
		if errno := s.Client(text); errno != api.OK {
			t.Fatalf("Client(%.60q) = %d", text, errno)
		}
	}
	s.Out()
}

// hears has a server receive entries, and drops what goes out.
func hears(t *testing.T, s *Server, entries ...api.Entry) {
	t.Helper()
	for _, e := range entries {
		wantReceive(t, s, enter(9, s.keep.Server(), e), api.OK)
	}
	s.Out()
}

// freeze makes a server have a proof against the hub of the epoch 0, and drops what goes out.
func freeze(t *testing.T, s *Server) api.Proof {
	t.Helper()
	p := lies(0, 0, 15)
	wantReceive(t, s, prove(9, s.keep.Server(), p), api.OK)
	s.Out()
	return p
}

// trio are the servers of a room in which @ann:0 is, each with these two entries.
func trio(t *testing.T) []*Server {
	t.Helper()
	l := []*Server{newServer(t, 0), newServer(t, 1), newServer(t, 2)}
	takes(t, l[0], create, join)
	share(t, l)
	return l
}

// share has all servers receive the entries of the first one that has the most.
func share(t *testing.T, l []*Server) {
	t.Helper()
	most := l[0]
	for _, s := range l {
		if s.keep.Len() > most.keep.Len() {
			most = s
		}
	}
	for _, s := range l {
		hears(t, s, most.Entries()[s.keep.Len():]...)
	}
}

// pass has servers hand the hub over by an event, and share it.
func pass(t *testing.T, l []*Server, from, to int, nonce int64) {
	t.Helper()
	if errno := l[from].Client(give(to, nonce)); errno != api.OK {
		t.Fatalf("Client of a handover = %d", errno)
	}
	for _, hop := range []int{to, from} {
		for _, text := range l[from+to-hop].Out() {
			if errno := l[hop].Receive(text); errno != api.OK {
				t.Fatalf("Receive of a deal = %d", errno)
			}
		}
	}
	l[from].Out()
	share(t, l)
}

// whole is all of a server that is asked.
type whole struct {
	entries  []api.Entry
	room     string
	proof    api.Proof
	is       bool
	refusals []api.Refusal
	mails    []api.Mail
	dropped  int
	signed   []string
	next     int
	now      int64
	open     string
}

// asked is a server's content.
func asked(s *Server) whole {
	p, is := s.Proof()
	c := whole{entries: s.Entries(), room: fmt.Sprint(s.Room()), proof: p, is: is, refusals: s.Refusals(), mails: s.Mails(), dropped: s.Dropped(), signed: s.Signed()}
	if s != nil {
		c.next, c.now = s.keep.Next(), s.now
		if s.open != nil {
			c.open = fmt.Sprint(*s.open)
		}
	}
	return c
}

// wantContent fails a test unless a server has this content, and nothing goes out.
func wantContent(t *testing.T, s *Server, want whole) {
	t.Helper()
	if got := asked(s); fmt.Sprint(got) != fmt.Sprint(want) {
		t.Errorf("the server has %d entries, proof %t, refusals %v, %d mails, dropped %d, signed %d, next %d, now %d, room %s, offer %.100q; want %d, %t, %v, %d, %d, %d, %d, %d, %s, %.100q",
			len(got.entries), got.is, got.refusals, len(got.mails), got.dropped, len(got.signed), got.next, got.now, got.room, got.open,
			len(want.entries), want.is, want.refusals, len(want.mails), want.dropped, len(want.signed), want.next, want.now, want.room, want.open)
	}
}

// told is a message with no more than the beginning of its body.
func told(m api.Message) string {
	return fmt.Sprintf("{%d from %d to %d: %.70q (%d bytes)}", m.Kind, m.From, m.To, m.Body, len(m.Body))
}

// wantOut fails a test unless these messages, and no others, are outgoing.
func wantOut(t *testing.T, s *Server, want ...api.Message) {
	t.Helper()
	out := s.Out()
	if len(out) != len(want) {
		t.Errorf("%d messages are outgoing; want %d", len(out), len(want))
	}
	for i, text := range out[:min(len(out), len(want))] {
		if m, errno := wire.Parse(text); m != want[i] || errno != api.OK {
			t.Errorf("the message %d is %s, %d; want %s", i, told(m), errno, told(want[i]))
		}
	}
	if again := s.Out(); len(again) != 0 {
		t.Errorf("%d messages are outgoing once more", len(again))
	}
	if n, many := s.keep.Flushed(), s.keep.Len(); n != many {
		t.Errorf("%d of %d entries are flushed", n, many)
	}
}

// wantClient fails a test unless Client answers this.
func wantClient(t *testing.T, s *Server, text string, want api.Errno) {
	t.Helper()
	if errno := s.Client(text); errno != want {
		t.Errorf("Client(%.60q) = %d; want %d", text, errno, want)
	}
}

// wantReceive fails a test unless Receive of a message answers this.
func wantReceive(t *testing.T, s *Server, m api.Message, want api.Errno) {
	t.Helper()
	if errno := s.Receive(must(wire.Bytes(m))); errno != want {
		t.Errorf("Receive(%s) = %d; want %d", told(m), errno, want)
	}
}

// refuses fails a test unless Receive of a message answers this error, changes nothing, and nothing goes out.
func refuses(t *testing.T, s *Server, m api.Message, want api.Errno) {
	t.Helper()
	before := asked(s)
	wantReceive(t, s, m, want)
	wantContent(t, s, before)
	wantOut(t, s)
}

// entryText is an entry's signed text.
func entryText(e api.Entry) string {
	return must(entry.Text(e))
}

// Promises 28.1, 28.2 and 28.4: the chapter's examples.
func TestExamples(tt *testing.T) {
	k, l := api.Key{Seed: "s", High: 1}, api.Key{Seed: "t", High: 1}
	b := []api.Grant{grant(tt, 0, k), grant(tt, 1, l)}
	s, w1 := New(0, 2, k, hall, b, 9000, 5)
	t, w2 := New(1, 2, l, hall, b, 9000, 5)
	none, w3 := New(2, 2, l, hall, b, 9000, 5)
	if s == nil || t == nil || none != nil || w1 != api.OK || w2 != api.OK || w3 != api.ErrRange {
		tt.Fatalf("New = %d, %d, %d", w1, w2, w3)
	}
	wantClient(tt, t, create, api.OK)
	out := t.Out()
	if len(out) != 1 {
		tt.Fatalf("%d messages are outgoing", len(out))
	}
	if errno := s.Receive(out[0]); errno != api.OK {
		tt.Errorf("Receive of the hub = %d", errno)
	}
	back := s.Out()
	if len(back) != 1 {
		tt.Fatalf("%d messages go back", len(back))
	}
	if errno := t.Receive(back[0]); errno != api.OK {
		tt.Errorf("Receive = %d", errno)
	}
	if !slices.Equal(s.Entries(), t.Entries()) || len(t.Entries()) != 1 || len(t.Mails()) != 0 || len(s.Signed()) != 1 {
		tt.Errorf("there are %d and %d entries, %d mails, %d signed texts", len(s.Entries()), len(t.Entries()), len(t.Mails()), len(s.Signed()))
	}
	if errno := t.Receive(out[0]); errno != api.ErrRange {
		tt.Errorf("Receive of its own message = %d", errno)
	}
	if errno := s.Receive("x"); errno != api.ErrCode {
		tt.Errorf("Receive of no message = %d", errno)
	}
}

// given is what is given to New.
type given struct {
	n, peers int
	k        api.Key
	room     string
	b        []api.Grant
	size     int
	gap      int64
}

// Promise 28.1: the first error applies. Each fault is put together with each one that comes later.
func TestNew(t *testing.T) {
	type fault struct {
		change func(g *given)
		want   api.Errno
	}
	faults := [][]fault{
		{
			{func(g *given) { g.peers = 0 }, api.ErrRange},
			{func(g *given) { g.peers = -1 }, api.ErrRange},
			{func(g *given) { g.peers = 9 }, api.ErrRange},
			{func(g *given) { g.peers = math.MaxInt }, api.ErrRange},
			{func(g *given) { g.n = -1 }, api.ErrRange},
			{func(g *given) { g.n = 3 }, api.ErrRange},
			{func(g *given) { g.n = 64 }, api.ErrRange},
			{func(g *given) { g.n = math.MinInt }, api.ErrRange},
		},
		{
			{func(g *given) { g.k = api.Key{} }, api.ErrForm},
			{func(g *given) { g.k.Next = 17 }, api.ErrForm},
			{func(g *given) { g.room = "hall" }, api.ErrForm},
			{func(g *given) { g.room = ann }, api.ErrForm},
			{func(g *given) { g.b = append(g.b, g.b[0]) }, api.ErrForm},
		},
		{
			{func(g *given) { g.size = -1 }, api.ErrRange},
			{func(g *given) { g.size = api.MaxDisk + 1 }, api.ErrRange},
			{func(g *given) { g.gap = 0 }, api.ErrRange},
			{func(g *given) { g.gap = -1 }, api.ErrRange},
			{func(g *given) { g.gap = api.MaxTime + 1 }, api.ErrRange},
		},
	}
	for i, l := range faults {
		for _, f := range l {
			for _, later := range append(slices.Concat(faults[i+1:]...), fault{func(*given) {}, api.OK}) {
				g := given{2, 3, keyOf(2), hall, all(t), size, gap}
				later.change(&g)
				f.change(&g)
				if s, errno := New(g.n, g.peers, g.k, g.room, g.b, g.size, g.gap); s != nil || errno != f.want {
					t.Errorf("New(%d, %d, %v, %q, %d grants, %d, %d) = %v, %d; want %d", g.n, g.peers, g.k, g.room, len(g.b), g.size, g.gap, s, errno, f.want)
				}
			}
		}
	}
	for _, g := range []given{
		{0, 1, keyOf(0), hall, nil, 0, 1},
		{0, 8, keyOf(0), hall, all(t), api.MaxDisk, api.MaxTime},
		{7, 8, keyOf(7), "!hall:63", all(t), 5, gap},
	} {
		s, errno := New(g.n, g.peers, g.k, g.room, g.b, g.size, g.gap)
		if s == nil || errno != api.OK {
			t.Fatalf("New = %v, %d", s, errno)
		}
		wantContent(t, s, whole{room: fmt.Sprint(api.Room{})})
		wantOut(t, s)
	}
}

// Promises 28.1 and 28.2: the hub makes an event an entry, signs and flushes it, and tells everybody.
func TestClientHub(t *testing.T) {
	s := newServer(t, 0)
	var signed []string
	for i, text := range []string{create, join, say(1), give(0, 1), say(2)} {
		wantClient(t, s, text, api.OK)
		l := s.Entries()
		if len(l) != i+1 || l[i].Event != text || l[i].Epoch != i/4 {
			t.Fatalf("after the event %d, there are the entries %v", i, l)
		}
		signed = append(signed, entryText(l[i]))
		wantOut(t, s, enter(0, 1, l[i]), enter(0, 2, l[i]))
		wantContent(t, s, whole{entries: l, room: fmt.Sprint(s.keep.Room()), signed: signed, next: i + 1})
	}
	if r := s.Room(); r.Len != 5 || r.Epoch != 1 || r.Hub != 0 {
		t.Errorf("Room = %v", r)
	}
}

// Promise 28.2: everybody is each server but the one that sends, whoever is the hub.
func TestEverybody(t *testing.T) {
	l := trio(t)
	pass(t, l, 0, 1, 1)
	wantClient(t, l[1], say(1), api.OK)
	e := l[1].Entries()[3]
	wantOut(t, l[1], enter(1, 0, e), enter(1, 2, e))

	alone, _ := New(0, 1, keyOf(0), hall, all(t), size, gap)
	takes(t, alone, create)
	wantOut(t, alone)
	many, _ := New(3, 8, keyOf(1), "!hall:3", []api.Grant{grant(t, 3, keyOf(1))}, size, gap)
	wantClient(t, many, bytes(api.Event{Room: "!hall:3", Sender: "@ann:3", Kind: api.EventCreate}), api.OK)
	var want []api.Message
	for _, to := range []int{0, 1, 2, 4, 5, 6, 7} {
		want = append(want, enter(3, to, many.Entries()[0]))
	}
	wantOut(t, many, want...)
}

// Promise 28.2: the first error of Client applies, for the hub and for others.
func TestClientOrder(t *testing.T) {
	used, other := keyOf(0), keyOf(1)
	used.Next, other.Next = 16, 16
	l := append(trio(t), made(t, 0, used, all(t), size), made(t, 1, other, all(t), size))
	share(t, l)
	for i, s := range l {
		for text, want := range map[string]api.Errno{"": api.ErrCode, "x": api.ErrCode, say(1) + "\x00": api.ErrCode, create: api.ErrTwice, join: api.ErrTwice} {
			before := asked(s)
			wantClient(t, s, text, want)
			wantContent(t, s, before)
			wantOut(t, s)
		}
		if i == 0 || i == 3 {
			for text, want := range map[string]api.Errno{stranger: api.ErrAuth, third: api.ErrForm} {
				before := asked(s)
				wantClient(t, s, text, want)
				wantContent(t, s, before)
				wantOut(t, s)
			}
		}
	}
	for _, text := range []string{say(1), give(0, 1), give(1, 1)} {
		wantClient(t, l[3], text, api.ErrOver)
	}
	for _, s := range l {
		p := freeze(t, s)
		before := asked(s)
		for _, text := range []string{"", "x", create, say(1), give(1, 1), stranger} {
			wantClient(t, s, text, api.ErrFroze)
		}
		wantContent(t, s, before)
		wantOut(t, s)
		if got, is := s.Proof(); got != p || !is {
			t.Errorf("Proof = %v, %t", got, is)
		}
	}
}

// taken is how many bytes of a disk a server's entries take that it made, with their counts.
func taken(s *Server) int {
	d, _ := disk.New(api.MaxDisk)
	for i, e := range s.Entries() {
		d, _ = store.PutCount(d, i+1)
		d, _ = store.PutEntry(d, must(entry.Bytes(e)))
	}
	return len(d.Data)
}

// Promise 28.2: what has no room on the disk is not made an entry, nor offered, nor told.
func TestClientFull(t *testing.T) {
	s := newServer(t, 0)
	takes(t, s, create, join)
	two := taken(s)
	takes(t, s, say(1))
	for room, want := range map[int][]api.Errno{
		two:                     {api.ErrFull, api.ErrFull, api.ErrFull},
		two + len(count()):      {api.ErrFull, api.OK, api.ErrFull},
		two + 2*len(count()):    {api.ErrFull, api.OK, api.OK},
		taken(s) - 1:            {api.ErrFull, api.OK, api.OK},
		taken(s):                {api.OK, api.ErrFull, api.ErrFull},
		taken(s) + len(count()): {api.OK, api.OK, api.ErrFull},
	} {
		s := made(t, 0, keyOf(0), all(t), room)
		takes(t, s, create, join)
		for i, call := range []func() api.Errno{
			func() api.Errno { return s.Client(say(1)) },
			func() api.Errno { return s.Client(give(1, 1)) },
			s.Head,
		} {
			before := asked(s)
			if errno := call(); errno != want[i] {
				t.Errorf("with room for %d bytes, the call %d = %d; want %d", room, i, errno, want[i])
			}
			if want[i] != api.OK {
				wantContent(t, s, before)
				wantOut(t, s)
			}
			s.Out()
		}
	}
}

// count is the record of a count.
func count() string {
	d, _ := disk.New(api.MaxDisk)
	d, _ = store.PutCount(d, 1)
	return d.Data
}

// Promise 28.1: a text that the book does not let the server sign was signed all the same.
func TestSignedRefused(t *testing.T) {
	s := made(t, 0, keyOf(0), []api.Grant{grant(t, 0, keyOf(1))}, size)
	text := entryText(api.Entry{Room: hall, Event: create})
	wantClient(t, s, create, api.ErrSign)
	wantContent(t, s, whole{room: fmt.Sprint(api.Room{}), signed: []string{text}, next: 1})
	wantOut(t, s)
	s.Fail(0, 0) // nothing of it was put
	wantContent(t, s, whole{room: fmt.Sprint(api.Room{}), signed: []string{text}})
}

// Promises 28.1 and 28.2: others put an event into the outbox, and send the hub what is due.
func TestClientParticipant(t *testing.T) {
	s := newServer(t, 2)
	wantClient(t, s, say(1), api.OK)
	wantOut(t, s, submit(2, 0, say(1)))
	wantClient(t, s, stranger, api.OK) // the hub is to judge it
	wantOut(t, s, submit(2, 0, stranger))
	wantClient(t, s, say(1), api.OK) // the chain does not have it
	wantOut(t, s, submit(2, 0, say(1)))
	mails := []api.Mail{{Id: 1, Text: say(1)}, {Id: 2, Text: stranger}, {Id: 3, Text: say(1)}}
	wantContent(t, s, whole{room: fmt.Sprint(api.Room{}), mails: mails})
	for range gap {
		s.Tick()
	}
	s.Out() // they were sent at gap
	for range gap - 1 {
		s.Tick()
	}
	s.Out()
	wantClient(t, s, say(2), api.OK)
	wantOut(t, s, submit(2, 0, say(2)))
	s.now++
	wantClient(t, s, say(3), api.OK)
	wantOut(t, s, submit(2, 0, say(1)), submit(2, 0, stranger), submit(2, 0, say(1)), submit(2, 0, say(3)))
}

// Promise 28.2: a mail is sent to the hub that there is then, whoever it was when it was put in.
func TestClientHubNow(t *testing.T) {
	l := trio(t)
	takes(t, l[2], say(1))
	pass(t, l, 0, 1, 1)
	l[2].now += gap
	wantClient(t, l[2], say(2), api.OK)
	wantOut(t, l[2], submit(2, 1, say(1)), submit(2, 1, say(2)))
	if mails := l[2].Mails(); len(mails) != 2 || mails[0].To != 0 || mails[1].To != 1 {
		t.Errorf("Mails = %v", mails)
	}
}

// Promise 28.2: an outbox takes MaxBox mails; what it does not take has nothing sent.
func TestClientBox(t *testing.T) {
	s := newServer(t, 1)
	for i := range api.MaxBox {
		wantClient(t, s, say(int64(i)), api.OK)
		wantOut(t, s, submit(1, 0, say(int64(i))))
	}
	s.now += gap
	before := asked(s)
	wantClient(t, s, say(1000), api.ErrFull)
	wantClient(t, s, "x", api.ErrCode)
	wantContent(t, s, before)
	wantOut(t, s)
	if len(before.mails) != api.MaxBox {
		t.Errorf("there are %d mails", len(before.mails))
	}
	wantReceive(t, s, reject(0, 1, say(7), api.ErrAuth), api.OK)
	takes(t, s, say(1000))
}

// Promise 28.2: a participant's time goes on: what is due is sent, and then the hub is asked.
func TestTickParticipant(t *testing.T) {
	l := trio(t)
	s := l[2]
	takes(t, s, say(1))
	for tick := range int64(10) {
		s.Tick()
		var want []api.Message
		if (tick+1)%gap == 0 {
			want = append(want, submit(2, 0, say(1)))
		}
		wantOut(t, s, append(want, ask(2, 0, 2))...)
		if s.now != tick+1 {
			t.Errorf("the time is %d", s.now)
		}
	}
	takes(t, s, say(2)) // at 10
	for tick := 11; tick < 20; tick++ {
		s.Tick()
		var want []api.Message
		if tick%gap == 0 {
			want = append(want, submit(2, 0, say(1)))
		}
		if tick%gap == 1 {
			want = append(want, submit(2, 0, say(2)))
		}
		wantOut(t, s, append(want, ask(2, 0, 2))...)
	}
	pass(t, l, 0, 1, 1)
	s.Tick()
	wantOut(t, s, ask(2, 1, 3))
	freeze(t, s)
	s.Tick()
	wantOut(t, s, submit(2, 1, say(1)), ask(2, 1, 3))
	s.now = api.MaxTime
	s.Tick()
	if s.now != api.MaxTime {
		t.Errorf("the time is %d", s.now)
	}
}

// Promise 28.2: when a server becomes the hub, it handles its mails: they become entries, or are refused.
func TestTickHub(t *testing.T) {
	l := trio(t)
	s := l[1]
	takes(t, s, say(1), stranger, say(2), say(1), third, give(1, 5))
	pass(t, l, 0, 1, 1)
	for range gap - 1 { // they were sent when they were put in
		s.Tick()
		wantOut(t, s)
	}
	s.Tick()
	e := s.Entries()[3:]
	if len(e) != 3 || e[0].Event != say(1) || e[1].Event != say(2) || e[2].Event != give(1, 5) {
		t.Fatalf("there are %d more entries", len(e))
	}
	wantOut(t, s, enter(1, 0, e[0]), enter(1, 2, e[0]), enter(1, 0, e[1]), enter(1, 2, e[1]), enter(1, 0, e[2]), enter(1, 2, e[2]))
	want := []api.Refusal{{Sum: sumOf(stranger), Code: api.ErrAuth}, {Sum: sumOf(say(1)), Code: api.ErrTwice}, {Sum: sumOf(third), Code: api.ErrForm}}
	if got := s.Refusals(); !slices.Equal(got, want) || len(s.Mails()) != 0 {
		t.Errorf("Refusals = %v, and %d mails; want %v", got, len(s.Mails()), want)
	}
	for range 2 * gap {
		s.Tick()
		wantOut(t, s)
	}
}

// Promise 28.2: a mail that is a handover stays till it is in the chain, or is refused.
func TestTickHandover(t *testing.T) {
	l := trio(t)
	s := l[1]
	takes(t, s, give(2, 5), give(0, 6))
	pass(t, l, 0, 1, 1)
	s.now += gap - 1
	s.Tick()
	d := s.open.Deal
	wantOut(t, s, deal(1, 2, d))
	want := []api.Refusal{{Sum: sumOf(give(0, 6)), Code: api.ErrState}}
	if mails := s.Mails(); len(mails) != 1 || mails[0].Text != give(2, 5) || !slices.Equal(s.Refusals(), want) {
		t.Errorf("Mails = %v, Refusals = %v", mails, s.Refusals())
	}
	for range gap - 1 {
		s.Tick()
		wantOut(t, s, deal(1, 2, d))
	}
	s.Tick() // the mail is due again, and the offer is still open
	wantOut(t, s, deal(1, 2, d))
	want = append(want, api.Refusal{Sum: sumOf(give(2, 5)), Code: api.ErrState})
	if len(s.Mails()) != 0 || !slices.Equal(s.Refusals(), want) {
		t.Errorf("%d mails, Refusals = %v", len(s.Mails()), s.Refusals())
	}

	l = trio(t)
	s = l[1]
	takes(t, s, give(2, 5))
	pass(t, l, 0, 1, 1)
	s.now += gap - 1
	s.Tick()
	s.Out()
	accept := signedDeal(2, must(handover.Answer(s.open.Deal)))
	wantReceive(t, s, deal(2, 1, accept), api.OK)
	e := s.Entries()[3]
	wantOut(t, s, enter(1, 0, e), enter(1, 2, e))
	if e.Event != give(2, 5) || len(s.Mails()) != 1 { // only an entry that is received takes mails out
		t.Errorf("the entry is %v, and there are %d mails", e, len(s.Mails()))
	}
	s.Tick()
	wantOut(t, s, ask(1, 2, 4))
}

// Promise 28.2: an offer goes out again with each tick, as long as the chain is where it was.
func TestOfferAgain(t *testing.T) {
	l := trio(t)
	s := l[0]
	wantClient(t, s, give(1, 1), api.OK)
	d := signedDeal(0, api.Deal{Kind: api.DealOffer, Room: hall, Index: 2, Hub: 0, Next: 1})
	wantOut(t, s, deal(0, 1, d))
	if want := must(handover.Text(d)); s.Signed()[2] != want || s.keep.Len() != 2 || s.keep.Next() != 3 {
		t.Errorf("the server signed %q", s.Signed()[2:])
	}
	for range 5 {
		s.Tick()
		wantOut(t, s, deal(0, 1, d))
	}
	before := asked(s)
	for _, text := range []string{give(1, 1), give(2, 1), give(1, 2)} {
		wantClient(t, s, text, api.ErrState)
	}
	wantClient(t, s, stranger, api.ErrAuth)
	wantContent(t, s, before)
	wantOut(t, s)
	takes(t, s, say(1)) // what is no handover goes on
	wantClient(t, s, give(2, 1), api.ErrState)
	wantOut(t, s)
	s.Tick()
	wantOut(t, s)
	if s.open != nil || len(s.Signed()) != 4 {
		t.Error("the offer is open still")
	}
	wantReceive(t, s, deal(1, 0, signedDeal(1, must(handover.Answer(d)))), api.ErrState)
	wantClient(t, s, give(2, 1), api.OK)
	d = signedDeal(0, api.Deal{Kind: api.DealOffer, Room: hall, Index: 3, Hub: 0, Next: 2})
	d.Sig = s.open.Sig
	wantOut(t, s, deal(0, 2, d))
	if errno := handover.Verify(all(t), s.open.Deal); errno != api.OK {
		t.Errorf("Verify of the offer = %d", errno)
	}
}

// Promise 28.3.
func TestGossip(t *testing.T) {
	s := newServer(t, 0)
	s.Gossip()
	wantOut(t, s)
	l := trio(t)
	takes(t, l[0], say(1))
	for _, s := range l {
		for range 2 {
			before := asked(s)
			s.Gossip()
			e := s.Entries()[s.keep.Len()-1]
			var want []api.Message
			for to := range peers {
				if to != s.keep.Server() {
					want = append(want, enter(s.keep.Server(), to, e))
				}
			}
			wantContent(t, s, before)
			wantOut(t, s, want...)
			freeze(t, s)
		}
	}
}

// Promise 28.3.
func TestHead(t *testing.T) {
	wantHead := func(s *Server, want api.Errno) {
		t.Helper()
		before := asked(s)
		if errno := s.Head(); errno != want {
			t.Errorf("Head = %d; want %d", errno, want)
		}
		wantContent(t, s, before)
		wantOut(t, s)
	}
	wantHead(newServer(t, 0), api.ErrNone)
	l := trio(t)
	wantHead(l[1], api.ErrState)
	for i := range 14 {
		if i == 7 {
			freeze(t, l[0]) // it goes on to say what it has
		}
		want := asked(l[0])
		if errno := l[0].Head(); errno != api.OK {
			t.Errorf("Head = %d", errno)
		}
		h := must(head.Of(l[0].Entries()[1]))
		h.Sig = sign(0, 2+i, must(head.Text(h)))
		want.signed = append(want.signed, must(head.Text(h)))
		want.next++
		wantContent(t, l[0], want)
		wantOut(t, l[0], state(0, 1, h), state(0, 2, h))
	}
	wantHead(l[0], api.ErrOver)
	l = trio(t)
	pass(t, l, 0, 1, 1)
	wantHead(l[0], api.ErrState)
	wantHead(l[1], api.ErrLink)
	takes(t, l[1], say(1))
	if errno := l[1].Head(); errno != api.OK {
		t.Errorf("Head = %d", errno)
	}
	if out := l[1].Out(); len(out) != 2 {
		t.Errorf("%d messages are outgoing", len(out))
	}
	l[1].Fail(0, 0)
	if n := l[1].keep.Next(); n != 3 { // an answer, an entry and a head
		t.Errorf("after a crash, Next = %d", n)
	}
}

// Promise 28.3: what a crash takes, and what it leaves.
func TestFail(t *testing.T) {
	l := trio(t)
	s := l[1]
	takes(t, s, say(1), say(2), say(3))
	wantReceive(t, s, reject(0, 1, say(2), api.ErrAuth), api.OK)
	pass(t, l, 0, 1, 1)
	takes(t, s, say(4), say(5), give(2, 1))
	if errno := s.Head(); errno != api.OK {
		t.Errorf("Head = %d", errno)
	}
	for range 5 {
		s.Gossip()
	}
	for range api.MaxOut {
		s.Gossip()
	}
	freeze(t, s)
	s.Gossip()
	s.now = 17
	before := asked(s)
	if len(before.mails) == 0 || len(before.refusals) == 0 || !before.is || before.open == "" || before.dropped == 0 || len(before.signed) != 5 {
		t.Fatalf("there is less to lose: %v", before)
	}
	for range 2 {
		s.Fail(5, 1)
		want := whole{entries: before.entries, room: before.room, dropped: before.dropped, signed: before.signed, next: before.next, now: 17}
		wantContent(t, s, want)
		wantOut(t, s)
	}
	takes(t, s, say(6)) // it is not frozen
	share(t, l)
	pass(t, l, 1, 0, 2) // nor has it an open offer
}

// Promise 28.3: the numbers of the outbox begin anew, and the gap stays.
func TestFailBox(t *testing.T) {
	s := newServer(t, 1)
	takes(t, s, say(1), say(2))
	s.Fail(0, 0)
	takes(t, s, say(3))
	if mails := s.Mails(); len(mails) != 1 || mails[0].Id != 1 {
		t.Errorf("Mails = %v", mails)
	}
	for tick := range gap {
		s.Tick()
		want := []api.Message{ask(1, 0, 0)}
		if tick == gap-1 {
			want = append([]api.Message{submit(1, 0, say(3))}, want...)
		}
		wantOut(t, s, want...)
	}
}

// Promise 28.3: after a crash, the entries of the chain are heard again, each as its hub's; what else was heard is not.
func TestFailHears(t *testing.T) {
	for crashing := range peers {
		l := trio(t)
		pass(t, l, 0, 1, 1)
		takes(t, l[1], say(1))
		share(t, l)
		pass(t, l, 1, 2, 2)
		takes(t, l[2], say(2))
		share(t, l)
		s := l[crashing]
		entries := s.Entries()
		ahead := lie(2, 2, 9)
		wantReceive(t, s, state(2, crashing, ahead), api.OK)
		wantOut(t, s, ask(crashing, 2, 6))
		for i, e := range entries {
			s.Fail(0, 0)
			if n := s.heard.Len(); n != len(entries) {
				t.Errorf("%d positions were heard", n)
			}
			hub := []int{0, 0, 0, 1, 1, 2}[i]
			other := lie(hub, e.Epoch, i)
			wantReceive(t, s, state(hub, crashing, other), api.ErrFroze)
			want := api.Proof{Server: hub, A: entryText(e), SigA: e.Sig, B: must(head.Text(other)), SigB: other.Sig}
			if p, is := s.Proof(); p != want || !is {
				t.Errorf("the proof against the hub of the entry %d is %v, %t", i, p, is)
			}
		}
		s.Fail(0, 0)
		s.Out()
		ahead.Sum[0] = 7
		wantReceive(t, s, state(2, crashing, signedHead(2, ahead)), api.OK)
	}
}

// Promise 28.1: at most MaxOut messages are outgoing, the first ones; the others are counted.
func TestDropped(t *testing.T) {
	l := trio(t)
	s := l[1]
	e := s.Entries()[1]
	var want []api.Message
	for i := range api.MaxOut {
		if i%2 == 0 {
			s.Gossip()
		}
		want = append(want, enter(1, i%2*2, e))
	}
	if s.Dropped() != 0 {
		t.Errorf("Dropped = %d", s.Dropped())
	}
	s.Gossip()
	s.Tick()
	if s.Dropped() != 3 {
		t.Errorf("Dropped = %d; want 3", s.Dropped())
	}
	wantOut(t, s, want...)
	s.Tick()
	wantOut(t, s, ask(1, 0, 2))
	if s.Dropped() != 3 {
		t.Errorf("Dropped = %d; want 3", s.Dropped())
	}
	for range api.MaxOut/2 - 1 {
		s.Gossip()
	}
	s.Tick()
	s.Gossip() // one of its two goes out
	if out := s.Out(); len(out) != api.MaxOut || s.Dropped() != 4 || out[api.MaxOut-1] != must(wire.Bytes(enter(1, 0, e))) {
		t.Errorf("%d messages are outgoing, and Dropped = %d", len(out), s.Dropped())
	}
}

// Promise 28.5: a change of what came in, or of what was answered, changes no server.
func TestNewMemory(t *testing.T) {
	b := all(t)
	s, _ := New(0, peers, keyOf(0), hall, b, size, gap)
	clear(b)
	takes(t, s, create, join)
	other := made(t, 1, keyOf(1), all(t), size)
	hears(t, other, s.Entries()...)
	takes(t, other, say(1), say(2))
	wantReceive(t, other, reject(0, 1, say(1), api.ErrAuth), api.OK)
	s.Fail(0, 0)
	freeze(t, s)
	freeze(t, other)
	for _, x := range []*Server{s, other} {
		want := asked(x)
		for _, l := range [][]string{x.Signed(), x.Out()} {
			clear(l)
		}
		clear(x.Entries())
		clear(x.Room().State)
		clear(x.Refusals())
		clear(x.Mails())
		wantContent(t, x, want)
	}
}

// Promise 28.5: nor do texts lie in memory that came in or was answered.
func TestNewTexts(t *testing.T) {
	room := strings.Clone(hall)
	s, _ := New(0, peers, keyOf(0), room, all(t), size, gap)
	apart(t, "New", s.room, room)
	takes(t, s, create, join)
	apart(t, "Entries", s.Entries()[0].Event, s.Entries()[0].Event)
	apart(t, "Signed", s.Signed()[0], s.Signed()[0])
	text := give(1, 1)
	takes(t, s, text)
	apart(t, "Client", s.open.event, text)
	other := newServer(t, 1)
	takes(t, other, text)
	apart(t, "Mails", other.Mails()[0].Text, text)
	apart(t, "Mails", other.Mails()[0].Text, other.Mails()[0].Text)
	freeze(t, s)
	p, _ := s.Proof()
	q, _ := s.Proof()
	apart(t, "Proof", p.A, q.A)
	apart(t, "Proof", p.SigA, q.SigA)
	apart(t, "Proof", p.B, q.B)
	apart(t, "Proof", p.SigB, q.SigB)
}

// apart fails a test if two texts are one in memory.
func apart(t *testing.T, call, a, b string) {
	t.Helper()
	if unsafe.StringData(a) == unsafe.StringData(b) {
		t.Errorf("%s: the text %.40q lies in other memory", call, a)
	}
}

// A server that New did not make takes nothing, signs nothing, and finds nothing; no call panics.
func TestNone(t *testing.T) {
	first := trio(t)[0].Entries()[0]
	d := signedDeal(1, api.Deal{Kind: api.DealOffer, Room: hall, Hub: 1, Next: 0})
	for _, s := range []*Server{nil, {}} {
		for range 2 {
			wantClient(t, s, "x", api.ErrCode)
			wantClient(t, s, create, api.ErrAuth)
			if errno := s.Receive("x"); errno != api.ErrCode {
				t.Errorf("Receive = %d", errno)
			}
			wantReceive(t, s, ask(0, 1, 0), api.ErrRange)
			wantReceive(t, s, ask(1, 0, 0), api.OK)
			wantReceive(t, s, submit(1, 0, create), api.ErrAuth)
			wantReceive(t, s, reject(0, 0, create, api.ErrAuth), api.ErrNone)
			wantReceive(t, s, enter(1, 0, first), api.ErrLink)
			wantReceive(t, s, state(1, 0, lie(0, 0, 0)), api.ErrLink)
			wantReceive(t, s, prove(1, 0, lies(0, 0, 0)), api.ErrNone)
			wantReceive(t, s, deal(1, 0, d), api.ErrState)
			wantReceive(t, s, deal(1, 0, must(handover.Answer(d))), api.ErrState)
			s.Tick()
			s.Gossip()
			if errno := s.Head(); errno != api.ErrNone {
				t.Errorf("Head = %d", errno)
			}
			s.Fail(3, 1)
			if out := s.Out(); len(out) != 0 {
				t.Errorf("%d messages are outgoing", len(out))
			}
			want := whole{room: fmt.Sprint(api.Room{})}
			if s != nil {
				want.now = s.now
			}
			wantContent(t, s, want)
		}
	}
}
