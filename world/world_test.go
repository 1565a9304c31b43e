package world

import (
	"fmt"
	"math"
	"slices"
	"strings"
	"testing"
	"unsafe"

	"palaver/api"
	"palaver/book"
	"palaver/chain"
	"palaver/entry"
	"palaver/event"
	"palaver/key"
	"palaver/server"
	"palaver/wire"
)

// The room's creator, and another user.
const (
	ann = "@ann:0"
	bob = "@bob:1"
)

// of is an event of the room.
func of(kind api.EventKind, sender, key, body string, nonce int64) string {
	return must(event.Bytes(api.Event{Room: "!hall:0", Sender: sender, Kind: kind, Key: key, Body: body, Nonce: nonce}))
}

// The first events of the room: it is made, @ann:0 is in it, and whoever wants to may come in.
var (
	create = of(api.EventCreate, ann, "", "", 0)
	join   = of(api.EventMember, ann, ann, "join", 0)
	public = of(api.EventRule, ann, "", "public", 0)
)

// say is the encoding of a message that @ann:0 writes.
func say(nonce int64) string {
	return of(api.EventMessage, ann, "", "say", nonce)
}

// give is the encoding of a handover to a server.
func give(to int, nonce int64) string {
	return of(api.EventHandover, ann, "", fmt.Sprint(to), nonce)
}

// must is a thing that there is.
func must[T any](thing T, errno api.Errno) T {
	if errno != api.OK {
		panic(fmt.Sprint("there is none: ", errno))
	}
	return thing
}

// setup is what most worlds here are made of: so many servers, of which some lie, with keys that sign sixteen texts.
func setup(servers int, liars uint) api.Setup {
	return api.Setup{Servers: servers, Liars: liars, High: 4, Size: 1e5, Gap: 3}
}

// made is a new world.
func made(t *testing.T, c api.Setup) *World {
	t.Helper()
	w, errno := New(c)
	if w == nil || errno != api.OK {
		t.Fatalf("New(%v) = %v, %d; want OK", c, w, errno)
	}
	return w
}

// The deeds.
func client(who int, text string) api.Deed {
	return api.Deed{Kind: api.DeedClient, Who: who, Text: text}
}
func tick(who int) api.Deed   { return api.Deed{Kind: api.DeedTick, Who: who} }
func gossip(who int) api.Deed { return api.Deed{Kind: api.DeedGossip, Who: who} }
func state(who int) api.Deed  { return api.Deed{Kind: api.DeedHead, Who: who} }
func fail(who, n int, bits byte) api.Deed {
	return api.Deed{Kind: api.DeedFail, Who: who, N: n, Bits: bits}
}
func deliver(n int) api.Deed      { return api.Deed{Kind: api.DeedDeliver, N: n} }
func drop(n int) api.Deed         { return api.Deed{Kind: api.DeedDrop, N: n} }
func double(n int) api.Deed       { return api.Deed{Kind: api.DeedDouble, N: n} }
func inject(text string) api.Deed { return api.Deed{Kind: api.DeedInject, Text: text} }
func forge(who, n int, text string) api.Deed {
	return api.Deed{Kind: api.DeedForge, Who: who, N: n, Text: text}
}

// told is a deed with no more than the beginning of its text.
func told(d api.Deed) string {
	return fmt.Sprintf("{kind %d, who %d, n %d, text %.60q, bits %d}", d.Kind, d.Who, d.N, d.Text, d.Bits)
}

// do fails a test unless a deed answers this.
func do(t *testing.T, w *World, d api.Deed, want api.Errno) {
	t.Helper()
	if errno := w.Do(d); errno != want {
		t.Fatalf("Do(%s) = %d; want %d", told(d), errno, want)
	}
}

// does fails a test unless deeds succeed.
func does(t *testing.T, w *World, deeds ...api.Deed) {
	t.Helper()
	for _, d := range deeds {
		do(t, w, d, api.OK)
	}
}

// settle has the first message delivered till there is none, whatever comes of it.
func settle(t *testing.T, w *World) {
	t.Helper()
	for range 4 * api.MaxNet {
		if len(w.Net()) == 0 {
			return
		}
		w.Do(deliver(0))
	}
	t.Fatal("there are always messages")
}

// asked is all of a world that is asked.
func asked(w *World) string {
	s := fmt.Sprint(w.Net(), w.Lost(), w.Book())
	for who := -1; who <= api.MaxPeers; who++ {
		s += fmt.Sprintf("\n%d honest %t: %s", who, w.Honest(who), inside(w.Server(who)))
	}
	return s
}

// inside is all of a server that is asked.
func inside(s *server.Server) string {
	if s == nil {
		return "none"
	}
	p, is := s.Proof()
	return fmt.Sprint(s.Entries(), s.Room(), p, is, s.Refusals(), s.Mails(), s.Dropped(), s.Signed())
}

// refuses fails a test unless a deed answers this error, and changes nothing.
func refuses(t *testing.T, w *World, d api.Deed, want api.Errno) {
	t.Helper()
	before := asked(w)
	do(t, w, d, want)
	if asked(w) != before {
		t.Errorf("Do(%s) = %d has changed the world", told(d), want)
	}
}

// line is a message's kind, from whom to whom.
type line struct {
	kind     api.MsgKind
	from, to int
}

// wantNet fails a test unless these messages are on their way, in order.
func wantNet(t *testing.T, w *World, want ...line) {
	t.Helper()
	var got []line
	for _, text := range w.Net() {
		m, errno := wire.Parse(text)
		if errno != api.OK {
			t.Errorf("%.60q is on its way", text)
		}
		got = append(got, line{m.Kind, m.From, m.To})
	}
	if !slices.Equal(got, want) {
		t.Fatalf("on their way are %v; want %v", got, want)
	}
}

// wantLens fails a test unless the servers have so many entries, in order, where a liar has -1.
func wantLens(t *testing.T, w *World, want ...int) {
	t.Helper()
	var got []int
	for who := range len(want) {
		if !w.Honest(who) {
			got = append(got, -1)
			continue
		}
		got = append(got, len(w.Server(who).Entries()))
	}
	if !slices.Equal(got, want) {
		t.Errorf("the servers have %v entries; want %v", got, want)
	}
}

// wantLost fails a test unless so many messages were lost.
func wantLost(t *testing.T, w *World, want int) {
	t.Helper()
	if w.Lost() != want {
		t.Errorf("Lost = %d; want %d", w.Lost(), want)
	}
}

// Promises 30.1 and 30.2: the chapter's examples.
func TestExamples(t *testing.T) {
	w := made(t, api.Setup{Servers: 2, High: 1, Size: 9000, Gap: 3})
	if w, errno := New(api.Setup{}); w != nil || errno != api.ErrForm {
		t.Errorf("New of the zero setup = %v, %d", w, errno)
	}
	if len(w.Book()) != 2 || !w.Honest(1) || w.Honest(2) {
		t.Errorf("Book has %d grants, Honest(1) = %t, Honest(2) = %t", len(w.Book()), w.Honest(1), w.Honest(2))
	}
	does(t, w, client(1, create), deliver(0), deliver(0))
	wantLens(t, w, 1, 1)
	if a, b := w.Server(0).Entries(), w.Server(1).Entries(); !slices.Equal(a, b) {
		t.Errorf("the servers have %v and %v", a, b)
	}
	wantNet(t, w)
	do(t, w, tick(2), api.ErrNone)
	do(t, w, api.Deed{}, api.ErrForm)
}

// setups are setups of which one field is each of some values.
func setups[T any](values []T, set func(*api.Setup, T)) []api.Setup {
	var l []api.Setup
	for _, v := range values {
		c := api.Setup{Servers: 3, Liars: 1, High: 1, Size: 9000, Gap: 3}
		set(&c, v)
		l = append(l, c)
	}
	return l
}

// The fields of a setup that are set.
func servers(c *api.Setup, n int) { c.Servers = n }
func liars(c *api.Setup, n uint)  { c.Liars = n }
func high(c *api.Setup, n int)    { c.High = n }
func size(c *api.Setup, n int)    { c.Size = n }
func gap(c *api.Setup, n int64)   { c.Gap = n }

// Promise 30.1: which setups are valid; in a new world, nothing has happened.
func TestNew(t *testing.T) {
	for _, c := range slices.Concat(
		setups([]int{1, 2, 7, api.MaxPeers}, servers),
		setups([]uint{0, 1, 2, 3, 4, 7}, liars),
		setups([]int{0, 1, 2, api.MaxHigh}, high),
		setups([]int{0, 1, 9000, api.MaxDisk - 1, api.MaxDisk}, size),
		setups([]int64{1, 2, api.MaxTime - 1, api.MaxTime}, gap),
		[]api.Setup{
			{Servers: 1, Gap: 1},
			{Servers: 1, Liars: 1, Gap: 1},
			{Servers: api.MaxPeers, Liars: 0xff, Gap: api.MaxTime, Size: api.MaxDisk},
			{Servers: api.MaxPeers, Liars: 0x80, Gap: 1},
		},
	) {
		wantNew(t, made(t, c), c)
	}
}

// wantNew fails a test unless nothing has happened in a world.
func wantNew(t *testing.T, w *World, c api.Setup) {
	t.Helper()
	wantNet(t, w)
	wantLost(t, w, 0)
	for who := range c.Servers {
		if w.Honest(who) {
			other, errno := server.New(who, c.Servers, keyOf(c, who), "!hall:0", w.Book(), c.Size, c.Gap)
			if errno != api.OK || inside(w.Server(who)) != inside(other) {
				t.Errorf("%v: the server %d is not new", c, who)
			}
		}
	}
}

// keyOf is the key of a server.
func keyOf(c api.Setup, who int) api.Key {
	return api.Key{Seed: "server " + string(rune('0'+who)), High: c.High}
}

// Promise 30.1: which setups are not valid.
func TestNewWrong(t *testing.T) {
	l := slices.Concat(
		setups([]int{math.MinInt, -64, -1, 0, api.MaxPeers + 1, 64, 1 << 32, math.MaxInt}, servers),
		setups([]uint{8, 9, 16, 1 << 8, 1 << 31, 1 << 32, 1 << 63, math.MaxUint}, liars),
		setups([]int{math.MinInt, -1, api.MaxHigh + 1, 64, math.MaxInt}, high),
		setups([]int{math.MinInt, -1, api.MaxDisk + 1, math.MaxInt}, size),
		setups([]int64{math.MinInt64, -1, 0, api.MaxTime + 1, math.MaxInt64}, gap),
		[]api.Setup{
			{},
			{Servers: 1, Liars: 2, Gap: 1},
			{Servers: api.MaxPeers, Liars: 0x100, Gap: 1},
		},
	)
	for _, c := range l {
		if w, errno := New(c); w != nil || errno != api.ErrForm {
			t.Errorf("New(%v) = %v, %d; want nil, ErrForm", c, w, errno)
		}
	}
}

// Promise 30.1: each server has a grant, liars too, with the root of its key.
func TestBook(t *testing.T) {
	for _, c := range []api.Setup{setup(1, 0), setup(2, 1), setup(api.MaxPeers, 0), setup(api.MaxPeers, 0xa5), setup(3, 7)} {
		for c.High = range 3 {
			var want []api.Grant
			for who := range c.Servers {
				root := must(key.Root(keyOf(c, who)))
				want = append(want, api.Grant{Server: who, From: 0, To: 4096, High: c.High, Root: root})
			}
			got := made(t, c).Book()
			if !slices.Equal(got, want) || book.Check(got) != api.OK {
				t.Errorf("%v: Book = %v; want %v", c, got, want)
			}
		}
	}
}

// Promise 30.1: who is honest; there is a server for whom is, always the same one.
func TestHonest(t *testing.T) {
	for _, c := range []api.Setup{setup(1, 0), setup(1, 1), setup(3, 0), setup(3, 2), setup(3, 5), setup(api.MaxPeers, 0x81), setup(api.MaxPeers, 0xff)} {
		w := made(t, c)
		for who := -1; who <= 70; who++ {
			want := who >= 0 && who < c.Servers && c.Liars>>who&1 == 0
			if w.Honest(who) != want || (w.Server(who) != nil) != want || w.Server(who) != w.Server(who) {
				t.Errorf("%v: Honest(%d) = %t, Server = %v; want %t", c, who, w.Honest(who), w.Server(who), want)
			}
		}
		for _, who := range []int{math.MinInt, math.MaxInt, 1 << 32} {
			if w.Honest(who) || w.Server(who) != nil {
				t.Errorf("%v: Honest(%d)", c, who)
			}
		}
	}
}

// Promise 30.1: each server has its number, its key, the room, the book, and knows how many there are.
func TestServers(t *testing.T) {
	const many = 4
	w := made(t, setup(many, 0))
	for who := 1; who < many; who++ {
		does(t, w, tick(who))
		wantNet(t, w, line{api.MsgAsk, who, 0})
		does(t, w, deliver(0))
	}
	does(t, w, client(0, create))
	wantNet(t, w, line{api.MsgEntry, 0, 1}, line{api.MsgEntry, 0, 2}, line{api.MsgEntry, 0, 3})
	settle(t, w)
	does(t, w, client(0, join))
	settle(t, w)
	for who := 1; who < many; who++ {
		// Each becomes the hub, and signs an entry that all the others take.
		does(t, w, client(who-1, give(who, int64(who))))
		settle(t, w)
		does(t, w, client(who, say(int64(who))))
		settle(t, w)
		last := w.Server(0).Entries()[1+2*who]
		if errno := entry.Verify(w.Book(), who, last); errno != api.OK || last.Room != "!hall:0" {
			t.Errorf("the entry of the server %d is of the room %q: Verify = %d", who, last.Room, errno)
		}
	}
	wantLens(t, w, 8, 8, 8, 8)
	wantOne(t, w)
}

// wantOne fails a test unless the chains of the honest servers are prefixes of one.
func wantOne(t *testing.T, w *World) {
	t.Helper()
	var longest []api.Entry
	for who := range api.MaxPeers {
		if !w.Honest(who) {
			continue
		}
		entries := w.Server(who).Entries()
		if chain.Common(entries, longest) < min(len(entries), len(longest)) {
			t.Fatalf("two chains of %d and %d entries are not one", len(entries), len(longest))
		}
		if len(entries) > len(longest) {
			longest = entries
		}
	}
}

// Promise 30.1: the setup's High, Size and Gap are those of the servers.
func TestSetup(t *testing.T) {
	c := setup(2, 0)
	c.High = 1
	w := made(t, c)
	does(t, w, client(0, create), client(0, join))
	do(t, w, client(0, public), api.ErrOver)

	full := must(entry.Bytes(w.Server(0).Entries()[0]))
	for _, c.Size = range []int{0, 100, len(full)} {
		w = made(t, c)
		do(t, w, client(0, create), api.ErrFull)
	}
	c.Size = len(full) + 100
	w = made(t, c)
	does(t, w, client(0, create))
	do(t, w, client(0, join), api.ErrFull)

	for _, c.Gap = range []int64{1, 2, 5} {
		w = made(t, c)
		does(t, w, client(1, create), drop(0))
		for range c.Gap - 1 {
			does(t, w, tick(1))
			wantNet(t, w, line{api.MsgAsk, 1, 0})
			does(t, w, drop(0))
		}
		does(t, w, tick(1))
		wantNet(t, w, line{api.MsgSubmit, 1, 0}, line{api.MsgAsk, 1, 0})
	}
}

// Promise 30.3: a change of what was answered changes no world, and texts lie in no memory that came in or was answered.
func TestNewMemory(t *testing.T) {
	w := made(t, setup(3, 4))
	text := strings.Clone("a text")
	does(t, w, client(0, create), inject(text), double(2))
	before := asked(w)
	clear(w.Book())
	clear(w.Net())
	_ = append(w.Book()[:1], api.Grant{})
	if asked(w) != before {
		t.Error("the world has changed")
	}
	texts := []string{text}
	for range 2 {
		texts = append(texts, w.Net()...)
	}
	for i, s := range texts {
		for _, other := range texts[:i] {
			if unsafe.StringData(s) == unsafe.StringData(other) {
				t.Errorf("%.40q lies in other memory", s)
			}
		}
	}
}

// Promise 30.3: worlds do not share anything, and go on alike.
func TestApart(t *testing.T) {
	c := setup(3, 4)
	w, other := made(t, c), made(t, c)
	untouched := asked(other)
	deeds := []api.Deed{client(0, create), deliver(1), client(1, join), inject("x"), tick(0), tick(1), double(0), drop(1), gossip(0), state(0), fail(1, 3, 7), forge(2, 0, headText(0, 0, 1))}
	for _, d := range deeds {
		w.Do(d)
	}
	if asked(other) != untouched {
		t.Error("another world has changed")
	}
	for _, d := range deeds {
		other.Do(d)
	}
	if asked(w) != asked(other) {
		t.Error("two worlds with the same deeds are not alike")
	}
}

// A world that New did not make has no servers, and no room for messages.
func TestNone(t *testing.T) {
	for _, w := range []*World{nil, {}} {
		for kind := range api.DeedCount + 2 {
			want := api.ErrNone
			switch kind {
			case api.DeedNone, api.DeedCount, api.DeedCount + 1:
				want = api.ErrForm
			case api.DeedInject:
				want = api.ErrFull
			}
			refuses(t, w, api.Deed{Kind: kind, Text: create}, want)
		}
		if w.Book() != nil || w.Honest(0) || w.Server(0) != nil || w.Net() != nil || w.Lost() != 0 {
			t.Error("there is something in no world")
		}
	}
}
