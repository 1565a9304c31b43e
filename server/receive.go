package server

import (
	"palaver/api"
	"palaver/entry"
	"palaver/handover"
	"palaver/head"
	"palaver/proof"
	"palaver/wire"
)

// Receive takes a message of a server. (The bodies of valid messages are what their kinds require: reading them can't fail.)
func (s *Server) Receive(text string) api.Errno {
	s = s.known()
	m, errno := wire.Parse(text)
	if errno != api.OK {
		return errno
	}
	if m.To != s.keep.Server() {
		return api.ErrRange
	}
	switch m.Kind {
	case api.MsgSubmit:
		return s.submitted(m)
	case api.MsgReject:
		return s.rejected(m)
	case api.MsgEntry:
		return s.entered(m)
	case api.MsgHead:
		return s.stated(m)
	case api.MsgAsk:
		return s.asked(m)
	case api.MsgProof:
		return s.proved(m)
	}
	return s.dealt(m)
}

// submitted takes an event that is to be an entry.
func (s *Server) submitted(m api.Message) api.Errno {
	if s.frozen() {
		return api.ErrFroze
	}
	if !s.keep.Hub() {
		return api.ErrState
	}
	for e := range s.from(0) {
		if e.Event == m.Body {
			s.send(api.MsgEntry, m.From, entryBody(e))
			return api.OK
		}
	}
	errno := s.handle(m.Body)
	if errno != api.OK {
		body, _ := wire.Reject(content(m.Body), errno)
		s.send(api.MsgReject, m.From, body)
	}
	return errno
}

// rejected takes that an event is refused.
func (s *Server) rejected(m api.Message) api.Errno {
	if m.From != s.keep.HubNow() {
		return api.ErrState
	}
	sum, code, _ := wire.Rejected(m.Body)
	for _, mail := range s.box.All() {
		if content(mail.Text) == sum {
			s.box.Done(mail.Id)
			s.refuse(sum, code)
			return api.OK
		}
	}
	return api.ErrNone
}

// entered takes an entry.
func (s *Server) entered(m api.Message) api.Errno {
	e, _ := entry.Parse(m.Body)
	text, _ := entry.Text(e)
	if errno := s.hear(e.Room, e.Epoch, text, e.Sig); errno != api.OK {
		return errno
	}
	switch n := s.keep.Len(); {
	case e.Index > n:
		s.ask(m.From)
		return api.OK
	case e.Index == n:
		if errno := s.keep.Take(e); errno != api.OK {
			return errno
		}
		s.keep.Flush()
	}
	if s.keep.Has(e.Event) {
		s.remove(e.Event)
	}
	return api.OK
}

// stated takes a head.
func (s *Server) stated(m api.Message) api.Errno {
	h, _ := head.Parse(m.Body)
	text, _ := head.Text(h)
	if errno := s.hear(h.Room, h.Epoch, text, h.Sig); errno != api.OK {
		return errno
	}
	if h.Index >= s.keep.Len() {
		s.ask(m.From)
	}
	return api.OK
}

// hear hears a text that the hub of an epoch signed about a room, and tells whether the server goes on.
func (s *Server) hear(room string, epoch int, text, sig string) api.Errno {
	hub, known := s.hubOf(epoch)
	if room != s.room || !known {
		return api.ErrLink
	}
	p, found, errno := s.heard.Hear(hub, text, sig)
	if errno != api.OK {
		return errno
	}
	if found {
		s.record(p)
	}
	if s.frozen() {
		return api.ErrFroze
	}
	return api.OK
}

// asked takes a question for entries.
func (s *Server) asked(m api.Message) api.Errno {
	index, _ := wire.Asked(m.Body)
	for e := range s.from(index) {
		if e.Index == index+api.MaxBack {
			break
		}
		s.send(api.MsgEntry, m.From, entryBody(e))
	}
	return api.OK
}

// proved takes a proof.
func (s *Server) proved(m api.Message) api.Errno {
	p, _ := proof.Parse(m.Body)
	if errno := proof.Check(s.book, p); errno != api.OK {
		return errno
	}
	said, _ := proof.Says(p.A)
	if hub, known := s.hubOf(said.Epoch); said.Room != s.room || !known || hub != p.Server {
		return api.ErrLink
	}
	s.record(p)
	return api.OK
}

// dealt takes a half of a handover's handshake.
func (s *Server) dealt(m api.Message) api.Errno {
	d, _ := handover.Parse(m.Body)
	if d.Kind == api.DealOffer {
		return s.offered(d)
	}
	return s.accepted(d)
}

// offered takes the offer to be the hub.
func (s *Server) offered(d api.Deal) api.Errno {
	if d.Next != s.keep.Server() || d.Hub != s.keep.HubNow() ||
		d.Room != s.room || d.Epoch != s.keep.Room().Epoch || d.Index != s.keep.Len() {
		return api.ErrState
	}
	if errno := handover.Verify(s.book, d); errno != api.OK {
		return errno
	}
	if s.frozen() {
		return api.ErrFroze
	}
	answer, errno := handover.Answer(d)
	if errno != api.OK {
		return errno
	}
	if answer, errno = s.deal(answer); errno != api.OK {
		return errno
	}
	s.send(api.MsgDeal, answer.Hub, dealBody(answer))
	return api.OK
}

// accepted takes the answer to an offer: its event becomes an entry.
func (s *Server) accepted(d api.Deal) api.Errno {
	if s.open == nil || !handover.Fits(s.open.Deal, d) {
		return api.ErrState
	}
	if errno := handover.Verify(s.book, d); errno != api.OK {
		return errno
	}
	if s.frozen() {
		return api.ErrFroze
	}
	event := s.open.event
	s.open = nil
	return s.enter(event)
}
