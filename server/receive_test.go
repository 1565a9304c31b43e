package server

import (
	"fmt"
	"math/rand"
	"slices"
	"strings"
	"testing"

	"palaver/api"
	"palaver/chain"
	"palaver/entry"
	"palaver/handover"
	"palaver/head"
	"palaver/wire"
)

// Promises 28.4 and 28.6: what is no message, or not for the server, changes nothing, whether it is frozen or not.
func TestReceiveWrong(t *testing.T) {
	for n, s := range trio(t) {
		good := must(wire.Bytes(submit(1, n, say(1))))
		for range 2 {
			before := asked(s)
			for _, text := range []string{"", "x", good + "\x00", good[1:], good[:len(good)-1], say(1), must(entry.Bytes(s.Entries()[0])), strings.Repeat("x", 1<<20)} {
				if errno := s.Receive(text); errno != api.ErrCode {
					t.Errorf("Receive(%.40q) = %d", text, errno)
				}
			}
			for _, to := range []int{0, 1, 2, 3, 63} {
				if to == n {
					continue
				}
				for _, m := range []api.Message{submit(1, to, say(1)), reject(0, to, say(1), api.ErrAuth), enter(0, to, s.Entries()[0]), state(0, to, lie(0, 0, 0)), ask(n, to, 0), prove(0, to, lies(0, 0, 0))} {
					wantReceive(t, s, m, api.ErrRange)
				}
			}
			wantContent(t, s, before)
			wantOut(t, s)
			freeze(t, s)
		}
	}
}

// Promise 28.4: the hub makes what is submitted an entry, and tells everybody; who sent it is told no other way.
func TestSubmitted(t *testing.T) {
	s := newServer(t, 0)
	var signed []string
	for i, from := range []int{1, 2, 0, 63} {
		text := []string{create, join, say(1), give(0, 1)}[i]
		wantReceive(t, s, submit(from, 0, text), api.OK)
		l := s.Entries()
		if len(l) != i+1 || l[i].Event != text {
			t.Fatalf("after the event %d, there are the entries %v", i, l)
		}
		signed = append(signed, entryText(l[i]))
		wantOut(t, s, enter(0, 1, l[i]), enter(0, 2, l[i]))
		wantContent(t, s, whole{entries: l, room: fmt.Sprint(s.keep.Room()), signed: signed, next: i + 1})
	}
	for _, from := range []int{0, 1, 63} {
		for _, e := range s.Entries() { // what it has, it sends to who asks for it
			before := asked(s)
			wantReceive(t, s, submit(from, 0, e.Event), api.OK)
			wantContent(t, s, before)
			wantOut(t, s, enter(0, from, e))
		}
	}
}

// Promise 28.4: what the hub refuses, it says so.
func TestSubmittedRefused(t *testing.T) {
	used := keyOf(0)
	used.Next = 16
	l := trio(t)
	over := made(t, 0, used, all(t), size)
	full := made(t, 0, used, all(t), taken(l[0])-2*len(count()))
	hears(t, over, l[0].Entries()...)
	hears(t, full, l[0].Entries()...)
	for _, c := range []struct {
		s    *Server
		text string
		want api.Errno
	}{
		{l[0], stranger, api.ErrAuth},
		{l[0], third, api.ErrForm},
		{l[0], give(64, 0), api.ErrForm},
		{l[0], strings.Replace(say(1), "hall:0", "call:0", 1), api.ErrAuth},
		{over, say(1), api.ErrOver},
		{over, give(1, 1), api.ErrOver},
		{over, stranger, api.ErrAuth},
		{full, say(1), api.ErrOver},
	} {
		for _, from := range []int{1, 0, 63} {
			before := asked(c.s)
			wantReceive(t, c.s, submit(from, 0, c.text), c.want)
			wantContent(t, c.s, before)
			wantOut(t, c.s, reject(0, from, c.text, c.want))
		}
	}
	full = made(t, 0, keyOf(0), all(t), taken(l[0]))
	takes(t, full, create, join)
	wantReceive(t, full, submit(1, 0, say(1)), api.ErrFull)
	wantOut(t, full, reject(0, 1, say(1), api.ErrFull))
	other := made(t, 0, keyOf(1), all(t), size)
	wantReceive(t, other, submit(1, 0, create), api.ErrSign)
	wantOut(t, other, reject(0, 1, create, api.ErrSign))

	for _, s := range l {
		if s != l[0] {
			for _, text := range []string{say(1), create, stranger, give(1, 1)} {
				refuses(t, s, submit(1, s.keep.Server(), text), api.ErrState)
			}
		}
		freeze(t, s)
		for _, text := range []string{say(1), create, stranger, give(1, 1)} {
			refuses(t, s, submit(1, s.keep.Server(), text), api.ErrFroze)
		}
	}
}

// Promise 28.4: what is submitted may be a handover: it is offered, or refused while another offer is open.
func TestSubmittedHandover(t *testing.T) {
	l := trio(t)
	s := l[0]
	wantReceive(t, s, submit(2, 0, give(63, 1)), api.OK)
	d := signedDeal(0, api.Deal{Kind: api.DealOffer, Room: hall, Index: 2, Hub: 0, Next: 63})
	wantOut(t, s, deal(0, 63, d))
	if s.keep.Len() != 2 || len(s.Signed()) != 3 || s.Signed()[2] != must(handover.Text(d)) {
		t.Errorf("there are %d entries, and the server signed %q", s.keep.Len(), s.Signed())
	}
	before := asked(s)
	wantReceive(t, s, submit(2, 0, give(63, 1)), api.ErrState)
	wantReceive(t, s, submit(1, 0, give(1, 2)), api.ErrState)
	wantContent(t, s, before)
	wantOut(t, s, reject(0, 2, give(63, 1), api.ErrState), reject(0, 1, give(1, 2), api.ErrState))
	wantReceive(t, s, submit(1, 0, give(0, 3)), api.OK) // to itself
	e := s.Entries()[2]
	wantOut(t, s, enter(0, 1, e), enter(0, 2, e))
}

// Promise 28.4: what the hub refused is taken out of the outbox, the first such mail only, and noted.
func TestRejected(t *testing.T) {
	l := trio(t)
	s := l[1]
	takes(t, s, say(1), say(2), say(1), stranger)
	for _, from := range []int{1, 2, 63} {
		refuses(t, s, reject(from, 1, say(1), api.ErrAuth), api.ErrState)
		refuses(t, s, reject(from, 1, say(9), api.ErrAuth), api.ErrState)
	}
	refuses(t, s, reject(0, 1, say(9), api.ErrAuth), api.ErrNone)
	refuses(t, s, reject(0, 1, create, api.ErrTwice), api.ErrNone)
	want := asked(s)
	for _, c := range []struct {
		text string
		code api.Errno
		left []int
	}{
		{say(1), api.ErrTwice, []int{2, 3, 4}},
		{say(2), api.ErrDown, []int{3, 4}},
		{stranger, api.ErrAuth, []int{3}},
		{say(1), api.ErrRange, nil},
	} {
		wantReceive(t, s, reject(0, 1, c.text, c.code), api.OK)
		want.refusals = append(want.refusals, api.Refusal{Sum: sumOf(c.text), Code: c.code})
		want.mails = slices.DeleteFunc(want.mails, func(m api.Mail) bool { return !slices.Contains(c.left, m.Id) })
		wantContent(t, s, want)
		wantOut(t, s)
	}
	refuses(t, s, reject(0, 1, say(1), api.ErrAuth), api.ErrNone)

	takes(t, s, say(3))
	freeze(t, s) // it is told all the same
	wantReceive(t, s, reject(0, 1, say(3), api.ErrFroze), api.OK)
	l = trio(t)
	takes(t, l[2], say(3))
	pass(t, l, 0, 1, 1)
	refuses(t, l[2], reject(0, 2, say(3), api.ErrAuth), api.ErrState) // the hub is another one now
	wantReceive(t, l[2], reject(1, 2, say(3), api.ErrAuth), api.OK)
	takes(t, l[0], say(4))
	refuses(t, l[1], reject(1, 1, say(4), api.ErrAuth), api.ErrNone)
}

// Promise 28.4: an entry that follows is taken and flushed, and its mails are done; nothing is sent.
func TestEntered(t *testing.T) {
	l := trio(t)
	takes(t, l[0], say(1), say(2))
	entries := l[0].Entries()
	s := newServer(t, 2)
	takes(t, s, say(1), create, join, say(1), say(3))
	want := asked(s)
	for i, e := range entries {
		for j, ahead := range entries[i+1:] { // what comes too soon is heard, and the chain is asked for
			wantReceive(t, s, enter(j, 2, ahead), api.OK)
			wantContent(t, s, want)
			wantOut(t, s, ask(2, j, i))
		}
		want.entries = entries[:i+1]
		want.mails = slices.DeleteFunc(want.mails, func(m api.Mail) bool { return m.Text == e.Event })
		for range 2 { // once more, it is old
			wantReceive(t, s, enter(63, 2, e), api.OK)
			want.room = fmt.Sprint(s.Room())
			wantContent(t, s, want)
			wantOut(t, s)
		}
	}
	if len(want.mails) != 1 || s.Room().Len != 4 {
		t.Errorf("there are the mails %v, and the room is %v", want.mails, s.Room())
	}
}

// Promise 28.4: an old entry takes out the mails with its event, if the chain has that.
func TestEnteredOld(t *testing.T) {
	l := trio(t)
	s := l[0]
	s.box.Put(0, join)
	s.box.Put(0, say(1))
	s.box.Put(0, join)
	e := s.Entries()[1]
	wantReceive(t, s, enter(1, 0, e), api.OK)
	if mails := s.Mails(); len(mails) != 1 || mails[0].Text != say(1) {
		t.Errorf("Mails = %v", mails)
	}
	wantOut(t, s)

	s = trio(t)[0]
	s.box.Put(0, say(1))
	other := s.Entries()[1]
	other.Event = say(1) // the chain does not have it, though the hub signed it
	want := asked(s)
	wantReceive(t, s, enter(1, 0, signedEntry(0, other)), api.OK)
	wantContent(t, s, want)
	wantOut(t, s)
}

// Promises 28.4 and 28.6: the first error of an entry applies: whose it is, what is heard, and what the chain says of it.
func TestEnteredOrder(t *testing.T) {
	l := trio(t)
	takes(t, l[0], say(1))
	next := l[0].Entries()[2]
	with := func(e api.Entry, change func(e *api.Entry)) api.Entry {
		change(&e)
		return e
	}
	for _, s := range []*Server{l[1], l[2]} {
		n := s.keep.Server()
		for index := range 5 {
			e := with(next, func(e *api.Entry) { e.Index = index })
			for _, f := range []api.Entry{
				with(e, func(e *api.Entry) { e.Room = "!hall:1" }),
				with(e, func(e *api.Entry) { e.Epoch = 1 }),
				with(e, func(e *api.Entry) { e.Epoch = api.MaxEvents }),
			} {
				refuses(t, s, enter(0, n, f), api.ErrLink)
				refuses(t, s, enter(0, n, signedEntry(0, f)), api.ErrLink)
				refuses(t, s, enter(n, n, signedEntry(n, f)), api.ErrLink)
			}
			refuses(t, s, enter(0, n, with(e, func(e *api.Entry) { e.Sig = "" })), api.ErrForm)
			refuses(t, s, enter(0, n, with(e, func(e *api.Entry) { e.Event = say(9) })), api.ErrSign)
			refuses(t, s, enter(n, n, signedEntry(n, e)), api.ErrSign)
			refuses(t, s, enter(0, n, signedEntry(3-n, e)), api.ErrSign)
		}
		if n := s.heard.Len(); n != 2 {
			t.Errorf("%d positions were heard", n)
		}
	}
	for _, c := range []struct {
		e    api.Entry
		want api.Errno
	}{
		{with(next, func(e *api.Entry) { e.Prev[0] ^= 1 }), api.ErrLink},
		{with(next, func(e *api.Entry) { e.Event = "x" }), api.ErrCode},
		{with(next, func(e *api.Entry) { e.Event = create }), api.ErrTwice},
		{with(next, func(e *api.Entry) { e.Event = stranger }), api.ErrAuth},
		{with(next, func(e *api.Entry) { e.Event = third }), api.ErrForm},
		{with(next, func(e *api.Entry) { e.Event = strings.Repeat("x", 6000) }), api.ErrCode},
	} {
		s := newServer(t, 1)
		hears(t, s, l[0].Entries()[:2]...)
		refuses(t, s, enter(0, 1, signedEntry(0, c.e)), c.want)
		refuses(t, s, enter(0, 1, signedEntry(0, c.e)), c.want)
		wantReceive(t, s, enter(0, 1, next), api.ErrFroze) // what was refused was heard
	}
	full := made(t, 1, keyOf(1), all(t), taken(l[1]))
	hears(t, full, l[0].Entries()[:2]...)
	refuses(t, full, enter(0, 1, next), api.ErrFull)
}

// Promise 28.4: a head is heard; a hub that has more is asked for it.
func TestStated(t *testing.T) {
	l := trio(t)
	takes(t, l[0], say(1), say(2))
	for n, s := range l {
		for index, e := range l[0].Entries() {
			h := signedHead(0, must(head.Of(e)))
			want := asked(s)
			for range 2 {
				wantReceive(t, s, state(9, n, h), api.OK)
				wantContent(t, s, want)
				if n > 0 && index >= 2 {
					wantOut(t, s, ask(n, 9, 2))
				} else {
					wantOut(t, s)
				}
			}
			wantHeard(t, s, h)
		}
	}
	s := newServer(t, 1)
	wantReceive(t, s, state(0, 1, lie(0, 0, 0)), api.OK)
	wantOut(t, s, ask(1, 0, 0))
}

// wantHeard fails a test unless a server heard something of what a head is about.
func wantHeard(t *testing.T, s *Server, h api.Head) {
	t.Helper()
	if _, is := s.heard.First(0, h.Room, h.Epoch, h.Index); !is {
		t.Errorf("the head %d was not heard", h.Index)
	}
}

// Promises 28.4 and 28.6: what errors a head brings.
func TestStatedWrong(t *testing.T) {
	for n, s := range trio(t) {
		for index := range 5 {
			h := lie(0, 0, index)
			other := h
			other.Room = "!hall:1"
			refuses(t, s, state(0, n, other), api.ErrLink)
			refuses(t, s, state(0, n, signedHead(0, other)), api.ErrLink)
			for _, epoch := range []int{1, 2, api.MaxEvents} {
				refuses(t, s, state(0, n, lie(0, epoch, index)), api.ErrLink)
			}
			refuses(t, s, state(0, n, lie(1, 0, index)), api.ErrSign)
			refuses(t, s, state(0, n, lie(2, 0, index)), api.ErrSign)
			other = h
			other.Sig = ""
			refuses(t, s, state(0, n, other), api.ErrForm)
			other = h
			other.Sum[31] ^= 1
			refuses(t, s, state(0, n, other), api.ErrSign)
		}
	}
	b := all(t)
	for i := range b {
		b[i].To = 3
	}
	s := made(t, 1, keyOf(1), b, size)
	refuses(t, s, state(0, 1, lie(0, 0, 4)), api.ErrNone)
	wantReceive(t, s, state(0, 1, lie(0, 0, 3)), api.OK)
}

// Promise 28.4: entries and heads are heard as statements of the hub of their epoch, whoever is the hub now.
func TestHubs(t *testing.T) {
	l := trio(t)
	pass(t, l, 0, 1, 1)
	takes(t, l[1], say(1), give(1, 5)) // to itself: two epochs of one hub
	share(t, l)
	pass(t, l, 1, 2, 2)
	takes(t, l[2], say(2))
	share(t, l)
	pass(t, l, 2, 0, 3)
	hubs := []int{0, 1, 1, 2, 0}
	if r := l[0].Room(); r.Epoch != 4 || r.Hub != 0 {
		t.Fatalf("the room is %v", r)
	}
	for n, s := range l {
		for epoch, hub := range hubs {
			for signer := range peers {
				want := api.ErrSign
				if signer == hub {
					want = api.OK
				}
				wantReceive(t, s, state(signer, n, lie(signer, epoch, 11)), want)
				wantReceive(t, s, enter(signer, n, signedEntry(signer, api.Entry{Room: hall, Epoch: epoch, Index: 12})), want)
			}
		}
		for signer := range peers {
			wantReceive(t, s, state(signer, n, lie(signer, 5, 11)), api.ErrLink)
			wantReceive(t, s, enter(signer, n, signedEntry(signer, api.Entry{Room: hall, Epoch: 5, Index: 12})), api.ErrLink)
		}
		for epoch, hub := range hubs {
			for server := range peers {
				fresh := newServer(t, n)
				hears(t, fresh, s.Entries()...)
				want := api.ErrLink
				if server == hub {
					want = api.OK
				}
				wantReceive(t, fresh, prove(9, n, lies(server, epoch, 14)), want)
				if _, is := fresh.Proof(); is != (want == api.OK) {
					t.Errorf("Proof of the server %d's lies in the epoch %d: %t", server, epoch, is)
				}
			}
		}
	}
}

// Promise 28.4: who hears two things has a proof, tells everybody, and is frozen.
func TestFroze(t *testing.T) {
	for n := range peers {
		l := trio(t)
		takes(t, l[0], say(1))
		s, e := l[n], l[0].Entries()[2]
		s.Fail(0, 0) // so that the hub heard its own entries, too
		takes(t, l[2], say(5))
		first := asked(s)
		a, b := lie(0, 0, 2), signedHead(0, api.Head{Room: hall, Index: 2, Sum: api.Hash{2}})
		if n == 0 {
			a = signedHead(0, must(head.Of(e)))
		}
		wantReceive(t, s, state(0, n, a), api.OK)
		s.Out()
		wantReceive(t, s, state(1, n, b), api.ErrFroze)
		p := proofOf(0, a, b)
		if n == 0 {
			p.A, p.SigA = entryText(e), e.Sig
		}
		var want []api.Message
		for to := range peers {
			if to != n {
				want = append(want, prove(n, to, p))
			}
		}
		first.proof, first.is = p, true
		wantContent(t, s, first)
		wantOut(t, s, want...)

		// From now on, what is right is heard, and refused; no other proof is recorded.
		refuses(t, s, state(0, n, a), api.ErrFroze)
		refuses(t, s, state(0, n, b), api.ErrFroze)
		refuses(t, s, state(0, n, lie(0, 0, 7)), api.ErrFroze)
		refuses(t, s, state(0, n, signedHead(0, api.Head{Room: hall, Index: 7})), api.ErrFroze)
		refuses(t, s, enter(0, n, e), api.ErrFroze)
		refuses(t, s, enter(0, n, l[0].Entries()[0]), api.ErrFroze)
		refuses(t, s, prove(0, n, lies(0, 0, 9)), api.OK)
		wantHeard(t, s, lie(0, 0, 7))
		refuses(t, s, state(0, n, lie(1, 0, 2)), api.ErrSign) // what is wrong otherwise is wrong still
		refuses(t, s, state(0, n, lie(0, 1, 2)), api.ErrLink)
	}
}

// Promise 28.4: an entry that is not the one that was heard freezes the server, and is not taken.
func TestFrozeEntry(t *testing.T) {
	l := trio(t)
	s := l[1]
	bare := api.Entry{Room: hall, Index: 2, Prev: s.keep.Last(), Event: say(1)}
	other := bare
	other.Event = say(2)
	bare, other = signedEntry(0, bare), signedEntry(0, other)
	wantReceive(t, s, enter(0, 1, bare), api.OK)
	want := asked(s)
	wantReceive(t, s, enter(0, 1, other), api.ErrFroze)
	want.proof, want.is = api.Proof{A: entryText(bare), SigA: bare.Sig, B: entryText(other), SigB: other.Sig}, true
	wantContent(t, s, want)
	wantOut(t, s, prove(1, 0, want.proof), prove(1, 2, want.proof))
	// The others learn it from the proof.
	wantReceive(t, l[2], prove(1, 2, want.proof), api.OK)
	if p, is := l[2].Proof(); p != want.proof || !is {
		t.Errorf("Proof = %v, %t", p, is)
	}
	wantOut(t, l[2], prove(2, 0, want.proof), prove(2, 1, want.proof))
}

// Promises 28.1 and 28.4: a proof that is too long for a message is recorded, and not sent.
func TestLongProof(t *testing.T) {
	s := trio(t)[1]
	for i, want := range []api.Errno{api.OK, api.ErrFroze} {
		e := signedEntry(0, api.Entry{Room: hall, Index: 9, Event: strings.Repeat("xy"[i:i+1], 4000)})
		wantReceive(t, s, enter(0, 1, e), want)
	}
	wantOut(t, s, ask(1, 0, 2))
	if _, is := s.Proof(); !is || s.Dropped() != 2 {
		t.Errorf("Proof = .., %t, and %d messages were dropped", is, s.Dropped())
	}
}

// Promise 28.4: up to MaxBack entries are sent to who asks, in order.
func TestAskedFor(t *testing.T) {
	l := trio(t)
	takes(t, l[0], say(1), say(2), say(3), say(4), say(5))
	share(t, l)
	for n, s := range l {
		for range 2 {
			for index := range 12 {
				for _, from := range []int{0, 2, 63} {
					before := asked(s)
					wantReceive(t, s, ask(from, n, index), api.OK)
					var want []api.Message
					for i := index; i < min(index+4, 7); i++ {
						want = append(want, enter(n, from, s.Entries()[i]))
					}
					wantContent(t, s, before)
					wantOut(t, s, want...)
				}
			}
			refuses(t, s, ask(0, n, api.MaxEvents), api.OK)
			freeze(t, s)
		}
	}
	refuses(t, newServer(t, 0), ask(1, 0, 0), api.OK)
}

// Promise 28.4: a proof is checked, and must be one against the hub of its epoch; it is recorded once.
func TestProved(t *testing.T) {
	for n, s := range trio(t) {
		p := lies(0, 0, 7)
		with := func(change func(p *api.Proof)) api.Proof {
			q := p
			change(&q)
			return q
		}
		elsewhere := api.Head{Room: "!hall:1", Index: 7}
		there := elsewhere
		there.Sum[0] = 1
		for range 2 {
			for _, c := range []struct {
				p    api.Proof
				want api.Errno
			}{
				{api.Proof{}, api.ErrCode},
				{with(func(p *api.Proof) { p.B, p.SigB = p.A, p.SigA }), api.ErrTwice},
				{with(func(p *api.Proof) { p.B = lies(0, 0, 8).B }), api.ErrLink},
				{with(func(p *api.Proof) { p.SigB = p.SigA }), api.ErrSign},
				{with(func(p *api.Proof) { p.Server = 1 }), api.ErrSign},
				{with(func(p *api.Proof) { p.Server = 9 }), api.ErrNone},
				{proofOf(0, signedHead(0, elsewhere), signedHead(0, there)), api.ErrLink},
				{lies(1, 0, 7), api.ErrLink}, // it is not the hub
				{lies(2, 0, 7), api.ErrLink},
				{lies(0, 1, 7), api.ErrLink}, // nobody is, of this epoch
				{lies(1, 1, 7), api.ErrLink},
			} {
				refuses(t, s, prove(0, n, c.p), c.want)
			}
			if _, is := s.Proof(); is {
				refuses(t, s, prove(0, n, lies(0, 0, 8)), api.OK)
				break
			}
			want := asked(s)
			want.proof, want.is = p, true
			wantReceive(t, s, prove(1, n, p), api.OK)
			wantContent(t, s, want)
			var out []api.Message
			for to := range peers {
				if to != n {
					out = append(out, prove(n, to, p))
				}
			}
			wantOut(t, s, out...)
		}
	}
}

// Promise 28.4: who is offered to be the hub accepts, signs that, and flushes it.
func TestOffered(t *testing.T) {
	s := trio(t)[1]
	d := signedDeal(0, api.Deal{Kind: api.DealOffer, Room: hall, Index: 2, Hub: 0, Next: 1})
	want := asked(s)
	for i := range 16 { // each offer is answered anew
		wantReceive(t, s, deal(9, 1, d), api.OK)
		answer := must(handover.Answer(d))
		text := must(handover.Text(answer))
		answer.Sig = sign(1, i, text)
		want.signed = append(want.signed, text)
		want.next++
		wantContent(t, s, want)
		wantOut(t, s, deal(1, 0, answer))
	}
	refuses(t, s, deal(0, 1, d), api.ErrOver)
	full := made(t, 1, keyOf(1), all(t), taken(trio(t)[0])-2*len(count()))
	hears(t, full, s.Entries()...)
	refuses(t, full, deal(0, 1, d), api.ErrFull)

	s.Fail(0, 0)
	if n := s.keep.Next(); n != 16 {
		t.Errorf("after a crash, Next = %d", n)
	}
}

// Promise 28.4: which offers are refused, and why first.
func TestOfferedOrder(t *testing.T) {
	used := keyOf(1)
	used.Next = 16
	right := api.Deal{Kind: api.DealOffer, Room: hall, Index: 2, Hub: 0, Next: 1}
	with := func(change func(d *api.Deal)) api.Deal {
		d := right
		change(&d)
		return d
	}
	s := made(t, 1, used, all(t), size)
	hears(t, s, trio(t)[0].Entries()...)
	for _, frozen := range []bool{false, true} {
		if frozen {
			freeze(t, s)
		}
		for _, d := range []api.Deal{
			with(func(d *api.Deal) { d.Next = 2 }),
			with(func(d *api.Deal) { d.Hub = 2 }),
			with(func(d *api.Deal) { d.Hub, d.Next = 1, 0 }),
			with(func(d *api.Deal) { d.Room = "!hall:1" }),
			with(func(d *api.Deal) { d.Epoch = 1 }),
			with(func(d *api.Deal) { d.Index = 1 }),
			with(func(d *api.Deal) { d.Index = 3 }),
		} {
			refuses(t, s, deal(0, 1, d), api.ErrState)
			refuses(t, s, deal(0, 1, signedDeal(0, d)), api.ErrState)
		}
		refuses(t, s, deal(0, 1, right), api.ErrForm)
		refuses(t, s, deal(0, 1, signedDeal(1, right)), api.ErrSign)
		refuses(t, s, deal(0, 1, signedDeal(2, right)), api.ErrSign)
		want := map[bool]api.Errno{false: api.ErrOver, true: api.ErrFroze}[frozen]
		refuses(t, s, deal(0, 1, signedDeal(0, right)), want)
	}
	l := trio(t)
	pass(t, l, 0, 1, 1)
	refuses(t, l[2], deal(0, 2, signedDeal(0, api.Deal{Kind: api.DealOffer, Room: hall, Epoch: 1, Index: 3, Hub: 0, Next: 2})), api.ErrState)
	wantReceive(t, l[2], deal(1, 2, signedDeal(1, api.Deal{Kind: api.DealOffer, Room: hall, Epoch: 1, Index: 3, Hub: 1, Next: 2})), api.OK)
}

// Promise 28.4: once an offer is accepted, its event is an entry, and the hub is another one.
func TestAccepted(t *testing.T) {
	l := trio(t)
	s := l[0]
	takes(t, s, give(1, 1))
	offer := s.open.Deal
	accept := signedDeal(1, must(handover.Answer(offer)))
	takes(t, s, say(1)) // also if the chain has gone on
	want := asked(s)
	wantReceive(t, s, deal(1, 0, accept), api.OK)
	e := s.Entries()[3]
	if e.Event != give(1, 1) || e.Epoch != 0 || s.Room().Hub != 1 || s.Room().Epoch != 1 {
		t.Errorf("the entry is %v, and the room %v", e, s.Room())
	}
	want.entries, want.room, want.open = append(want.entries, e), fmt.Sprint(s.Room()), ""
	want.signed, want.next = append(want.signed, entryText(e)), want.next+1
	wantContent(t, s, want)
	wantOut(t, s, enter(0, 1, e), enter(0, 2, e))
	refuses(t, s, deal(1, 0, accept), api.ErrState)
	refuses(t, s, submit(1, 0, say(2)), api.ErrState)
	share(t, l)
	takes(t, l[1], say(2))
	hears(t, s, l[1].Entries()[4])
}

// Promise 28.4: which acceptances are refused, and why first; a refusal leaves the offer open.
func TestAcceptedOrder(t *testing.T) {
	s := trio(t)[0]
	d := api.Deal{Kind: api.DealAccept, Room: hall, Index: 2, Hub: 0, Next: 1}
	right := signedDeal(1, d)
	with := func(change func(d *api.Deal)) api.Deal {
		d := d
		change(&d)
		return d
	}
	refuses(t, s, deal(1, 0, right), api.ErrState)
	takes(t, s, give(1, 1))
	for _, frozen := range []bool{false, true} {
		if frozen {
			freeze(t, s)
		}
		for _, d := range []api.Deal{
			with(func(d *api.Deal) { d.Next = 2 }),
			with(func(d *api.Deal) { d.Hub = 2 }),
			with(func(d *api.Deal) { d.Room = "!hall:1" }),
			with(func(d *api.Deal) { d.Epoch = 1 }),
			with(func(d *api.Deal) { d.Index = 1 }),
			with(func(d *api.Deal) { d.Index = 3 }),
		} {
			refuses(t, s, deal(1, 0, d), api.ErrState)
			refuses(t, s, deal(1, 0, signedDeal(1, d)), api.ErrState)
		}
		refuses(t, s, deal(1, 0, d), api.ErrForm)
		refuses(t, s, deal(1, 0, signedDeal(0, d)), api.ErrSign)
		refuses(t, s, deal(1, 0, signedDeal(2, d)), api.ErrSign)
		if frozen {
			refuses(t, s, deal(1, 0, right), api.ErrFroze)
		}
	}
	s.Fail(0, 0)
	refuses(t, s, deal(1, 0, right), api.ErrState)

	// What can't be made an entry any more is not offered any more, either.
	for _, spend := range []func(s *Server) api.Errno{
		(*Server).Head,
		func(s *Server) api.Errno { return s.Client(bytes(of(api.EventMember, ann, ann, "leave", 1))) },
	} {
		s := trio(t)[0]
		takes(t, s, give(1, 1))
		for range 13 {
			if s.open == nil || spend(s) != api.OK {
				break
			}
		}
		want := asked(s)
		want.open = ""
		errno := api.ErrOver
		if s.keep.Len() > 2 {
			errno = api.ErrAuth
		}
		s.Out()
		wantReceive(t, s, deal(1, 0, right), errno)
		wantContent(t, s, want)
		wantOut(t, s)
	}
}

// Promise 28.4: an offer to itself is none that a server gets: it is a handover to be made at once; and its own acceptance is none.
func TestOwnDeals(t *testing.T) {
	s := trio(t)[0]
	refuses(t, s, deal(0, 0, signedDeal(0, api.Deal{Kind: api.DealOffer, Room: hall, Index: 2, Hub: 0, Next: 1})), api.ErrState)
	refuses(t, s, deal(0, 0, signedDeal(0, api.Deal{Kind: api.DealAccept, Room: hall, Index: 2, Hub: 1, Next: 0})), api.ErrState)
}

// fair has the messages of servers delivered, in order, till there are none, and their time go on, many times.
func fair(l []*Server, rounds int) {
	for range rounds {
		for _, s := range l {
			s.Tick()
		}
		for moved := true; moved; {
			moved = false
			for _, s := range l {
				for _, text := range s.Out() {
					moved = true
					if m, _ := wire.Parse(text); m.To < len(l) {
						l[m.To].Receive(text)
					}
				}
			}
		}
	}
}

// wantOne fails a test unless the chains are prefixes of one.
func wantOne(t *testing.T, l []*Server) {
	t.Helper()
	for i, s := range l {
		for _, other := range l[:i] {
			if n := chain.Common(s.Entries(), other.Entries()); n < min(s.keep.Len(), other.keep.Len()) {
				t.Fatalf("two chains of %d and %d entries have only %d in common", s.keep.Len(), other.keep.Len(), n)
			}
		}
	}
}

// Promise 28.4: where messages come through, all have one chain in the end, and no mails, whatever was lost before.
func TestFair(t *testing.T) {
	l := []*Server{newServer(t, 0), newServer(t, 1), newServer(t, 2)}
	takes(t, l[2], say(1), create, join, say(2))
	fair(l, 10)
	for _, s := range l {
		if s.keep.Len() != 3 || len(s.Mails()) != 0 {
			t.Errorf("a server has %d entries and %d mails", s.keep.Len(), len(s.Mails()))
		}
	}
	want := []api.Refusal{{Sum: sumOf(say(1)), Code: api.ErrAuth}} // it came ahead of the room
	if refusals := l[2].Refusals(); !slices.Equal(refusals, want) {
		t.Errorf("Refusals = %v", refusals)
	}
	takes(t, l[2], give(1, 1))
	takes(t, l[1], say(3))
	fair(l, 10)
	takes(t, l[0], say(4))
	fair(l, 10)
	wantOne(t, l)
	for _, s := range l {
		if s.keep.Len() != 6 || s.Room().Hub != 1 || len(s.Mails()) != 0 {
			t.Errorf("a server has %d entries and %d mails, and its room is %v", s.keep.Len(), len(s.Mails()), s.Room())
		}
	}
}

// roam is a network that loses and doubles messages, and servers that crash.
type roam struct {
	source  *rand.Rand
	servers []*Server
	way     []string
	counts  map[string]int
}

// step does something, and then takes what goes out.
func (r *roam) step(t *testing.T) {
	s := r.servers[r.source.Intn(len(r.servers))]
	nonce := r.source.Int63n(6)
	switch n := r.source.Intn(20); {
	case n < 1 && s.keep.Hub():
		s.Head()
	case n < 2:
		s.Fail(r.source.Intn(100), 1)
		r.counts["crashes"]++
	case n < 4:
		s.Client([]string{say(nonce), say(nonce), give(int(nonce)%4, nonce), join, create, stranger}[r.source.Intn(6)])
	case n < 6:
		s.Tick()
	case n < 7:
		s.Gossip()
	case len(r.way) > 0:
		i := r.source.Intn(len(r.way))
		text := r.way[i]
		if r.source.Intn(5) > 0 { // else, it comes once more
			r.way = slices.Delete(r.way, i, i+1)
		}
		if m, _ := wire.Parse(text); m.To < len(r.servers) && r.source.Intn(5) > 0 {
			r.servers[m.To].Receive(text)
		}
	}
	for _, s := range r.servers {
		for _, text := range s.Out() {
			m, errno := wire.Parse(text)
			if errno != api.OK || m.From != s.keep.Server() {
				t.Fatalf("%s goes out", told(m))
			}
			if e, errno := entry.Parse(m.Body); errno == api.OK && e.Index >= s.keep.Flushed() {
				t.Fatalf("the entry %d goes out, and only %d are flushed", e.Index, s.keep.Flushed())
			}
			if len(r.way) < 60 {
				r.way = append(r.way, text)
			}
		}
	}
}

// Promises 28.4, 28.6 and 28.7: whatever is lost, doubled or late, and whoever crashes, there is one chain; no entry is lost, and what goes out is flushed.
func TestRoam(t *testing.T) {
	counts := map[string]int{}
	for seed := range int64(6) {
		r := roam{source: rand.New(rand.NewSource(seed)), servers: trio(t), counts: counts}
		longest := 0
		for range 400 {
			before := make([]int, peers)
			for i, s := range r.servers {
				before[i] = s.keep.Len()
			}
			r.step(t)
			for i, s := range r.servers {
				if s.keep.Len() < before[i] {
					t.Fatalf("the server %d has lost entries", i)
				}
				if _, is := s.Proof(); is {
					t.Fatalf("the server %d has a proof", i)
				}
				longest = max(longest, s.keep.Len())
			}
		}
		wantOne(t, r.servers)
		for _, s := range r.servers {
			s.Fail(0, 0)
		}
		fair(r.servers, 15)
		wantOne(t, r.servers)
		for _, s := range r.servers {
			if s.keep.Len() < longest || s.keep.Len() != r.servers[0].keep.Len() {
				t.Errorf("in the end, a server has %d of %d entries", s.keep.Len(), longest)
			}
		}
		counts["entries"] += longest
		counts["epochs"] += r.servers[0].Room().Epoch
	}
	if counts["crashes"] < 50 || counts["entries"] < 40 || counts["epochs"] < 5 {
		t.Errorf("there were only %v", counts)
	}
}

// Promise 28.6: what somebody else than the hub signed, or what was changed on its way, changes no chain.
func TestRefused(t *testing.T) {
	source := rand.New(rand.NewSource(1))
	l := trio(t)
	takes(t, l[0], say(1))
	s, next := l[2], l[0].Entries()[2]
	want := fmt.Sprint(s.Entries(), s.Room())
	right := must(wire.Bytes(enter(0, 2, next)))
	for range 2000 {
		text := []byte(right)
		for range 1 + source.Intn(2) {
			text[source.Intn(len(text))] ^= byte(1 + source.Intn(255))
		}
		if m, errno := wire.Parse(string(text)); errno == api.OK && m.To == 2 && m.Kind == api.MsgEntry && m.Body == must(entry.Bytes(next)) {
			continue // only who sent it was changed
		}
		s.Receive(string(text))
	}
	for signer := 1; signer < peers; signer++ {
		for index := range 5 {
			e := next
			e.Index = index
			wantReceive(t, s, enter(0, 2, signedEntry(signer, e)), api.ErrSign)
		}
	}
	if got := fmt.Sprint(s.Entries(), s.Room()); got != want {
		t.Errorf("the chain is %.100s", got)
	}
	if _, is := s.Proof(); is {
		t.Error("there is a proof")
	}
	hears(t, s, next)
}
