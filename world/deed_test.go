package world

import (
	"fmt"
	"math"
	"math/rand"
	"slices"
	"strings"
	"testing"

	"palaver/api"
	"palaver/book"
	"palaver/entry"
	"palaver/handover"
	"palaver/head"
	"palaver/net"
	"palaver/octet"
	"palaver/proof"
	"palaver/server"
	"palaver/wire"
)

// entryText is the signed text of an entry.
func entryText(epoch, index int, prev api.Hash, event string) string {
	return must(entry.Text(api.Entry{Room: "!hall:0", Epoch: epoch, Index: index, Prev: prev, Event: event}))
}

// headText is the signed text of a head with a hash of which there is no entry.
func headText(epoch, index int, sum byte) string {
	return must(head.Text(api.Head{Room: "!hall:0", Epoch: epoch, Index: index, Sum: api.Hash{sum}}))
}

// dealText is the signed text of a deal.
func dealText(kind api.DealKind, epoch, index, hub, next int) string {
	return must(handover.Text(api.Deal{Kind: kind, Room: "!hall:0", Epoch: epoch, Index: index, Hub: hub, Next: next}))
}

// Promise 30.2: which kinds of deeds there are.
func TestKinds(t *testing.T) {
	w := made(t, setup(2, 2))
	for _, kind := range []api.DeedKind{api.DeedNone, api.DeedCount, api.DeedCount + 1, 100, math.MaxUint8} {
		for _, d := range []api.Deed{{}, {Who: 5, N: 7}, {Text: create}, {Who: 1, Text: headText(0, 0, 1), Bits: 1}} {
			d.Kind = kind
			refuses(t, w, d, api.ErrForm)
		}
	}
}

// Promise 30.2: who is no honest server does nothing.
func TestWho(t *testing.T) {
	w := made(t, setup(3, 2))
	does(t, w, client(0, create))
	for _, who := range []int{math.MinInt, -1, 1, 3, 63, 64, 1 << 32, math.MaxInt} {
		for _, d := range []api.Deed{client(who, join), client(who, "x"), tick(who), gossip(who), state(who), fail(who, 0, 0)} {
			refuses(t, w, d, api.ErrNone)
		}
	}
}

// twin is a server like one of a world, to do the same with.
func twin(t *testing.T, w *World, c api.Setup, who int) *server.Server {
	t.Helper()
	s, errno := server.New(who, c.Servers, keyOf(c, who), "!hall:0", w.Book(), c.Size, c.Gap)
	if errno != api.OK {
		t.Fatalf("New = %d", errno)
	}
	return s
}

// Promise 30.2: what a server does, it does as it would by itself, and all that goes out of it is put into the network, in order.
func TestOwnDeeds(t *testing.T) {
	c := setup(4, 0)
	w := made(t, c)
	hub, other := twin(t, w, c, 0), twin(t, w, c, 2)
	var way []string
	same := func(d api.Deed, s *server.Server, want api.Errno) {
		t.Helper()
		way = append(way, s.Out()...)
		do(t, w, d, want)
		if got := w.Net(); !slices.Equal(got, way) {
			t.Fatalf("after %s, %d messages are on their way; want %d", told(d), len(got), len(way))
		}
		if got := w.Server(d.Who); inside(got) != inside(s) {
			t.Fatalf("after %s, the server is not as it should be", told(d))
		}
		wantLost(t, w, 0)
	}
	same(state(0), hub, hub.Head())
	for _, text := range []string{"x", join, create, create, say(1), join, give(2, 1), give(1, 2)} {
		same(client(0, text), hub, hub.Client(text))
		same(client(2, text), other, other.Client(text))
	}
	same(state(2), other, other.Head())
	for _, s := range []*server.Server{hub, other} {
		who := 0
		if s == other {
			who = 2
		}
		s.Gossip()
		same(gossip(who), s, api.OK)
		for range 5 {
			s.Tick()
			same(tick(who), s, api.OK)
		}
		s.Fail(3, 9)
		same(fail(who, 3, 9), s, api.OK)
		s.Tick()
		same(tick(who), s, api.OK)
		s.Gossip()
		same(gossip(who), s, api.OK)
	}
	same(state(0), hub, hub.Head())
	if len(way) < 40 || len(hub.Entries()) < 2 || len(hub.Signed()) < 4 {
		t.Errorf("there were only %d messages, %d entries", len(way), len(hub.Entries()))
	}
}

// Promise 30.2: the errors of what servers do.
func TestOwnErrors(t *testing.T) {
	w := made(t, setup(3, 0))
	refuses(t, w, state(0), api.ErrNone)
	refuses(t, w, gossip(0), api.OK)
	refuses(t, w, client(0, "x"), api.ErrCode)
	refuses(t, w, client(1, ""), api.ErrCode)
	refuses(t, w, client(0, join), api.ErrAuth)
	does(t, w, client(0, create))
	settle(t, w)
	refuses(t, w, client(0, create), api.ErrTwice)
	refuses(t, w, client(1, create), api.ErrTwice)
	refuses(t, w, state(1), api.ErrState)
	does(t, w, state(0))
	wantNet(t, w, line{api.MsgHead, 0, 1}, line{api.MsgHead, 0, 2})
	does(t, w, gossip(2))
	wantNet(t, w, line{api.MsgHead, 0, 1}, line{api.MsgHead, 0, 2}, line{api.MsgEntry, 2, 0}, line{api.MsgEntry, 2, 1})
}

// Promise 30.2: a crash, of whatever numbers, leaves the entries, and takes the mails.
func TestFail(t *testing.T) {
	for _, n := range []int{math.MinInt, -1, 0, 1, 1000, math.MaxInt} {
		w := made(t, setup(2, 0))
		does(t, w, client(0, create), deliver(0), client(1, join), fail(0, n, 0xff), fail(1, n, 1))
		wantLens(t, w, 1, 1)
		wantNet(t, w, line{api.MsgSubmit, 1, 0})
		if mails := w.Server(1).Mails(); len(mails) != 0 {
			t.Errorf("there are mails: %v", mails)
		}
		does(t, w, deliver(0), deliver(0))
		wantLens(t, w, 2, 2)
	}
}

// Promise 30.2: a message is taken, and what comes of it goes into the network, in order.
func TestDeliver(t *testing.T) {
	w := made(t, setup(4, 0))
	refuses(t, w, deliver(0), api.ErrNone)
	does(t, w, client(2, create), client(3, join))
	wantNet(t, w, line{api.MsgSubmit, 2, 0}, line{api.MsgSubmit, 3, 0})
	for _, i := range []int{math.MinInt, -1, 2, 3, math.MaxInt} {
		refuses(t, w, deliver(i), api.ErrNone)
	}
	does(t, w, deliver(0))
	wantNet(t, w, line{api.MsgSubmit, 3, 0}, line{api.MsgEntry, 0, 1}, line{api.MsgEntry, 0, 2}, line{api.MsgEntry, 0, 3})
	does(t, w, deliver(2))
	wantLens(t, w, 1, 0, 1, 0)
	wantNet(t, w, line{api.MsgSubmit, 3, 0}, line{api.MsgEntry, 0, 1}, line{api.MsgEntry, 0, 3})
	does(t, w, deliver(0))
	wantNet(t, w, line{api.MsgEntry, 0, 1}, line{api.MsgEntry, 0, 3}, line{api.MsgEntry, 0, 1}, line{api.MsgEntry, 0, 2}, line{api.MsgEntry, 0, 3})
	does(t, w, deliver(4))
	wantNet(t, w, line{api.MsgEntry, 0, 1}, line{api.MsgEntry, 0, 3}, line{api.MsgEntry, 0, 1}, line{api.MsgEntry, 0, 2}, line{api.MsgAsk, 3, 0})
	settle(t, w)
	wantLens(t, w, 2, 2, 2, 2)
	wantLost(t, w, 0)
}

// Promise 30.2: the error of the server that receives is the answer, and the message is taken all the same.
func TestDeliverErrors(t *testing.T) {
	w := made(t, setup(3, 0))
	does(t, w, client(0, create))
	settle(t, w)
	for _, c := range []struct {
		m    api.Message
		want api.Errno
	}{
		{api.Message{Kind: api.MsgSubmit, From: 0, To: 1, Body: join}, api.ErrState},
		{api.Message{Kind: api.MsgReject, From: 1, To: 2, Body: must(wire.Reject(api.Hash{}, 1))}, api.ErrState},
		{api.Message{Kind: api.MsgReject, From: 0, To: 2, Body: must(wire.Reject(api.Hash{}, 1))}, api.ErrNone},
		{api.Message{Kind: api.MsgEntry, From: 0, To: 2, Body: body(entryText(1, 0, api.Hash{}, create), "")}, api.ErrLink},
		{api.Message{Kind: api.MsgHead, From: 0, To: 1, Body: body(headText(0, 0, 1), "")}, api.ErrForm},
		{api.Message{Kind: api.MsgDeal, From: 0, To: 1, Body: body(dealText(api.DealOffer, 0, 1, 2, 1), "")}, api.ErrState},
	} {
		does(t, w, inject(must(wire.Bytes(c.m))))
		before := inside(w.Server(c.m.To))
		do(t, w, deliver(0), c.want)
		wantNet(t, w)
		if inside(w.Server(c.m.To)) != before {
			t.Errorf("the server %d has changed", c.m.To)
		}
	}
	// What is refused goes out of the hub all the same.
	does(t, w, client(1, say(1)))
	do(t, w, deliver(0), api.ErrAuth)
	wantNet(t, w, line{api.MsgReject, 0, 1})
	wantLost(t, w, 0)
}

// Promise 30.2: what is no message, or goes to nobody who is honest, is taken, and nothing comes of it.
func TestDeliverNothing(t *testing.T) {
	w := made(t, setup(3, 4))
	does(t, w, client(0, create))
	settle(t, w)
	before := asked(w)
	question := api.Message{Kind: api.MsgAsk, From: 1, Body: must(wire.Ask(0))}
	texts := []string{"", "x", create, strings.Repeat("y", 1e5), must(wire.Bytes(question)) + "\x00"}
	for _, question.To = range []int{2, 3, 8, api.MaxServer} {
		texts = append(texts, must(wire.Bytes(question)))
	}
	for _, text := range texts {
		does(t, w, inject(text), deliver(0))
		if asked(w) != before {
			t.Errorf("%.40q has changed the world", text)
		}
	}
	question.To = 0
	does(t, w, inject(must(wire.Bytes(question))), deliver(0))
	wantNet(t, w, line{api.MsgEntry, 0, 1})
}

// Promise 30.2: what is done to the network is what it does by itself, and no server knows of it.
func TestNetwork(t *testing.T) {
	source := rand.New(rand.NewSource(1))
	w := made(t, setup(2, 2))
	n := must(net.New(api.MaxNet))
	for i := range 5000 {
		at := source.Intn(api.MaxNet+3) - 1
		text := fmt.Sprint(i)
		var d api.Deed
		var want api.Errno
		switch source.Intn(6) {
		case 0:
			d, want = drop(at), n.Drop(at)
		case 1, 2:
			d, want = double(at), n.Double(at)
		case 3:
			_, want = n.Take(at)
			d = deliver(at)
		default:
			d, want = inject(text), n.Put(text)
		}
		do(t, w, d, want)
		if w.Lost() != n.Lost() || i%50 == 0 && !slices.Equal(w.Net(), n.All()) {
			t.Fatalf("after %s, %d are lost; want %d", told(d), w.Lost(), n.Lost())
		}
	}
	for n.Put("x") == api.OK {
		does(t, w, inject("x"))
	}
	if !slices.Equal(w.Net(), n.All()) || len(w.Net()) != 1024 || w.Lost() < 100 {
		t.Errorf("%d messages are on their way, %d are lost", len(w.Net()), w.Lost())
	}
	wantLens(t, w, 0, -1)
}

// Promise 30.2: what goes out of a server and finds no room is lost, and counted; the deed's answer is the server's.
func TestNoRoom(t *testing.T) {
	w := made(t, setup(4, 8))
	for range api.MaxNet - 2 {
		does(t, w, inject("x"))
	}
	does(t, w, client(0, create))
	wantLost(t, w, 1)
	all := w.Net()
	for i, to := range []int{1, 2} {
		if m, errno := wire.Parse(all[api.MaxNet-2+i]); errno != api.OK || m.Kind != api.MsgEntry || m.To != to {
			t.Errorf("the message to %d is %v, %d", to, m, errno)
		}
	}
	do(t, w, client(0, create), api.ErrTwice)
	do(t, w, inject("x"), api.ErrFull)
	do(t, w, double(0), api.ErrFull)
	do(t, w, forge(3, 0, headText(0, 0, 1)), api.ErrFull)
	wantLost(t, w, 4)
	does(t, w, tick(1), gossip(0))
	wantLost(t, w, 8)
	// The one that is delivered makes room for one.
	does(t, w, deliver(api.MaxNet-1))
	wantLens(t, w, 1, 0, 1, -1)
	does(t, w, gossip(2))
	wantLost(t, w, 10)
	if s := w.Server(0); s.Dropped() != 0 || len(w.Net()) != api.MaxNet {
		t.Errorf("Dropped = %d, and %d messages are on their way", s.Dropped(), len(w.Net()))
	}
}

// forged fails a test unless a liar's text is the last message, signed by the liar's key at an index; then it is lost.
func forged(t *testing.T, w *World, d api.Deed, kind api.MsgKind, index byte) {
	t.Helper()
	does(t, w, d)
	all := w.Net()
	m := must(wire.Parse(all[len(all)-1]))
	if m.Kind != kind || m.From != d.Who || m.To != d.N {
		t.Errorf("%s: the message is of kind %d, from %d to %d", told(d), m.Kind, m.From, m.To)
	}
	l := must(octet.All(m.Body))
	if len(l) != 2 || l[0] != d.Text {
		t.Fatalf("%s: the message says %.100q", told(d), l)
	}
	if errno := book.Verify(w.Book(), d.Who, 0, d.Text, l[1]); errno != api.OK || l[1][0] != index {
		t.Errorf("%s: Verify = %d of the signature %d; want %d", told(d), errno, l[1][0], index)
	}
	does(t, w, drop(len(all)-1))
}

// Promise 30.2: a liar signs entries, heads and deals, whatever they say, for each server, itself too, as long as its key lasts.
func TestForge(t *testing.T) {
	c := setup(3, 6)
	c.High = 3
	w := made(t, c)
	does(t, w, client(0, create))
	for who := 1; who <= 2; who++ {
		forged(t, w, forge(who, 0, entryText(0, 0, api.Hash{}, create)), api.MsgEntry, 0)
		forged(t, w, forge(who, 1, entryText(7, 4096, api.Hash{9}, "no event")), api.MsgEntry, 1)
		forged(t, w, forge(who, 2, must(entry.Text(api.Entry{Room: "!other:5"}))), api.MsgEntry, 2)
		forged(t, w, forge(who, 0, headText(0, 0, 1)), api.MsgHead, 3)
		forged(t, w, forge(who, 1, headText(4096, 4096, 0)), api.MsgHead, 4)
		forged(t, w, forge(who, 2, dealText(api.DealOffer, 0, 1, 0, 1)), api.MsgDeal, 5)
		forged(t, w, forge(who, 0, dealText(api.DealAccept, 5, 6, 7, 63)), api.MsgDeal, 6)
		forged(t, w, forge(who, 0, headText(0, 0, 2)), api.MsgHead, 7)
		refuses(t, w, forge(who, 0, headText(0, 0, 2)), api.ErrOver)
		refuses(t, w, forge(who, 0, headText(0, 0, 3)), api.ErrOver)
	}
	wantNet(t, w, line{api.MsgEntry, 0, 1}, line{api.MsgEntry, 0, 2})
	wantLens(t, w, 1, -1, -1)
}

// ofSize is the signed text of an entry that has so many bytes.
func ofSize(t *testing.T, size int) string {
	t.Helper()
	rest := size - len(entryText(0, 0, api.Hash{}, strings.Repeat("x", 4000))) + 4000
	text := entryText(0, 0, api.Hash{}, strings.Repeat("x", rest))
	if len(text) != size {
		t.Fatalf("a text has %d bytes; want %d", len(text), size)
	}
	return text
}

// Promise 30.2: which texts a liar can't sign, and the first error that applies.
func TestForgeWrong(t *testing.T) {
	w := made(t, setup(3, 6))
	long := ofSize(t, api.MaxText+1)
	texts := []string{"", "x", long, create, headText(0, 0, 1)}
	for _, text := range texts {
		for _, who := range []int{math.MinInt, -1, 0, 3, 63, math.MaxInt} {
			for _, to := range []int{-1, 0, 1, 3} {
				refuses(t, w, forge(who, to, text), api.ErrNone)
			}
		}
		for _, to := range []int{math.MinInt, -1, 3, 8, 63, 64, math.MaxInt} {
			refuses(t, w, forge(1, to, text), api.ErrRange)
		}
	}
	for _, text := range []string{long, strings.Repeat("x", api.MaxText+1), strings.Repeat("x", 1e6)} {
		refuses(t, w, forge(1, 0, text), api.ErrLong)
	}
	right := entryText(0, 0, api.Hash{}, create)
	p := api.Proof{Server: 1, A: headText(0, 0, 1), B: headText(0, 0, 2)}
	for _, text := range []string{"", "x", create, right + "\x00", right[1:], body(right, ""), body(headText(0, 0, 1), "sig"), must(proof.Bytes(p)), must(wire.Ask(0)), strings.Repeat("x", api.MaxText)} {
		refuses(t, w, forge(1, 0, text), api.ErrCode)
	}
	// None of all these has cost a signature.
	forged(t, w, forge(1, 0, headText(0, 0, 1)), api.MsgHead, 0)
}

// Promise 30.2: an entry that is too long for a message with its signature is signed, and goes nowhere; a key that is used up is told first.
func TestForgeLong(t *testing.T) {
	c := setup(2, 2)
	c.High = 1
	w := made(t, c)
	signature := len(must(octet.Text(strings.Repeat("x", 1088+1+32))))
	most := ofSize(t, api.MaxText)
	fits := ofSize(t, api.MaxText-signature-len("\x02\xff\x7f")) // ahead of the text stand how many there are, and its length
	forged(t, w, forge(1, 0, fits), api.MsgEntry, 0)
	refuses(t, w, forge(1, 0, most), api.ErrLong)
	for _, text := range []string{most, fits} {
		refuses(t, w, forge(1, 0, text), api.ErrOver)
	}
	refuses(t, w, forge(1, 0, most+"x"), api.ErrLong)
	refuses(t, w, forge(1, 0, most[1:]), api.ErrCode)

	w = made(t, c)
	refuses(t, w, forge(1, 0, ofSize(t, len(fits)+1)), api.ErrLong)
	forged(t, w, forge(1, 0, fits), api.MsgEntry, 1)
}

// Promise 30.2: a hub that says two things of one index is found out.
func TestEquivocation(t *testing.T) {
	w := made(t, setup(3, 1))
	other := of(api.EventCreate, ann, "", "", 1)
	does(t, w, forge(0, 1, entryText(0, 0, api.Hash{}, create)), forge(0, 2, entryText(0, 0, api.Hash{}, other)), deliver(0), deliver(0), gossip(1))
	wantNet(t, w, line{api.MsgEntry, 1, 0}, line{api.MsgEntry, 1, 2})
	do(t, w, deliver(1), api.ErrFroze)
	wantNet(t, w, line{api.MsgEntry, 1, 0}, line{api.MsgProof, 2, 0}, line{api.MsgProof, 2, 1})
	does(t, w, deliver(2))
	for who := 1; who <= 2; who++ {
		p, is := w.Server(who).Proof()
		if errno := proof.Check(w.Book(), p); !is || p.Server != 0 || errno != api.OK {
			t.Errorf("the server %d has a proof %t against %d: Check = %d", who, is, p.Server, errno)
		}
	}
	settle(t, w)
	wantLens(t, w, -1, 1, 1)
}

// roam is a world in which anything happens, and what there was of it.
type roam struct {
	source *rand.Rand
	world  *World
	c      api.Setup
	counts map[string]int
}

// text is what is said somewhere: an event, or a text to be signed.
func (r *roam) text() string {
	nonce := r.source.Int63n(30)
	switch r.source.Intn(10) {
	case 0:
		return create
	case 1:
		return join
	case 2, 3:
		return give(r.honest(), nonce)
	case 4:
		return of(api.EventMessage, bob, "", "say", nonce)
	}
	return say(nonce)
}

// honest is some honest server.
func (r *roam) honest() int {
	for {
		if who := r.source.Intn(r.c.Servers); r.world.Honest(who) {
			return who
		}
	}
}

// lie is some text that a liar signs: what could come of the chain, or what was said of it otherwise.
func (r *roam) lie(liar int) string {
	s := r.world.Server(r.honest())
	room, entries := s.Room(), s.Entries()
	index := min(r.source.Intn(len(entries)+2), api.MaxEvents)
	epoch := max(room.Epoch-r.source.Intn(2), 0)
	var prev api.Hash
	if 0 < index && index <= len(entries) {
		prev = must(entry.Sum(entries[index-1]))
	}
	switch r.source.Intn(4) {
	case 0:
		return headText(epoch, index, byte(r.source.Intn(2)))
	case 1:
		return dealText(api.DealOffer, room.Epoch, len(entries), liar, r.other(liar))
	case 2:
		return dealText(api.DealAccept, room.Epoch, len(entries), r.other(liar), liar)
	}
	return entryText(epoch, index, prev, r.text())
}

// other is a server that is not this one.
func (r *roam) other(who int) int {
	return (who + 1 + r.source.Intn(r.c.Servers-1)) % r.c.Servers
}

// changed is a message on its way with some other bytes, or one that says that somebody else sent it, or to somebody else.
func (r *roam) changed() string {
	all := r.world.Net()
	if len(all) == 0 {
		return r.text()
	}
	text := all[r.source.Intn(len(all))]
	if m, errno := wire.Parse(text); errno == api.OK && r.source.Intn(2) == 0 {
		m.From, m.To = r.source.Intn(r.c.Servers), r.source.Intn(r.c.Servers)
		return must(wire.Bytes(m))
	}
	b := []byte(text)
	if len(b) > 0 {
		b[r.source.Intn(len(b))] ^= byte(1 + r.source.Intn(255))
	}
	return string(b)
}

// deed is what happens next.
func (r *roam) deed() api.Deed {
	who, at := r.source.Intn(r.c.Servers), r.source.Intn(len(r.world.Net())+1)
	switch n := r.source.Intn(40); {
	case n < 6:
		return client(who, r.text())
	case n < 9:
		return tick(who)
	case n < 11:
		return gossip(who)
	case n < 12:
		return state(who)
	case n < 13:
		return fail(who, r.source.Intn(2000), byte(n))
	case n < 15:
		return drop(at)
	case n < 17:
		return double(at)
	case n < 19:
		return inject(r.changed())
	case n < 22:
		return forge(who, r.source.Intn(r.c.Servers), r.lie(who))
	}
	return deliver(at)
}

// step does something, and checks that no chain has become shorter, and no honest hub is found lying.
func (r *roam) step(t *testing.T) {
	var before [api.MaxPeers]int
	for who := range r.c.Servers {
		before[who] = len(r.world.Server(who).Entries())
	}
	d := r.deed()
	errno := r.world.Do(d)
	if errno == api.OK {
		r.counts[fmt.Sprint("kind ", d.Kind)]++
	}
	for who := range r.c.Servers {
		s := r.world.Server(who)
		if len(s.Entries()) < before[who] {
			t.Fatalf("after %s, the server %d has %d entries; it had %d", told(d), who, len(s.Entries()), before[who])
		}
		if _, is := s.Proof(); is {
			t.Fatalf("after %s, the server %d has a proof", told(d), who)
		}
		r.counts[fmt.Sprint("hub ", s.Room().Hub)]++
		r.counts["entries"] = max(r.counts["entries"], len(s.Entries()))
	}
}

// Promise 30.4: as long as the hubs are honest, there is one chain, whatever is lost, doubled, injected or forged, and whoever crashes.
func TestOneChain(t *testing.T) {
	counts := map[string]int{}
	for seed := range int64(12) {
		r := roam{source: rand.New(rand.NewSource(seed)), c: setup(4, 0b1000), counts: counts}
		if seed%3 == 1 {
			r.c = setup(5, 0b10110)
		}
		r.c.High = 5
		r.world = made(t, r.c)
		does(t, r.world, client(0, create), client(0, join))
		for range 500 {
			r.step(t)
			wantOne(t, r.world)
		}
	}
	for kind := api.DeedClient; kind < api.DeedCount; kind++ {
		if counts[fmt.Sprint("kind ", kind)] < 20 {
			t.Errorf("there were only %v", counts)
		}
	}
	if counts["entries"] < 15 || counts["hub 1"] < 100 || counts["hub 3"] < 100 {
		t.Errorf("there were only %v", counts)
	}
}
