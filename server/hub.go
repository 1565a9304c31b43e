package server

import (
	"strings"

	"palaver/api"
	"palaver/auth"
	"palaver/entry"
	"palaver/event"
	"palaver/handover"
	"palaver/ident"
)

// hubOf is the hub of an epoch, if the chain has come to that epoch.
func (s *Server) hubOf(epoch int) (int, bool) {
	now := s.keep.Room().Epoch
	if epoch >= now {
		return s.keep.HubNow(), epoch == now
	}
	if epoch == 0 {
		return ident.Room(s.room)
	}
	var before api.Entry // in the end, the last entry of the epoch before: the handover
	for e := range s.from(0) {
		if e.Epoch == epoch {
			break
		}
		before = e
	}
	given, _ := event.Parse(before.Event)
	return auth.Next(given.Body)
}

// handleDue handles, as the hub, the events that are due.
func (s *Server) handleDue() {
	for _, mail := range s.box.Due(s.now) {
		errno := s.handle(mail.Text)
		if errno != api.OK {
			s.refuse(content(mail.Text), errno)
		}
		if errno != api.OK || s.keep.Has(mail.Text) {
			s.box.Done(mail.Id)
		}
	}
}

// handle makes an event an entry, as the hub, or offers the server that it names to be the hub.
func (s *Server) handle(text string) api.Errno {
	if errno := s.keep.Allowed(text); errno != api.OK {
		return errno
	}
	// What is permitted is an event, and a handover names a server.
	e, _ := event.Parse(text)
	if e.Kind == api.EventHandover {
		if to, _ := auth.Next(e.Body); to != s.keep.Server() {
			return s.offer(to, text)
		}
	}
	return s.enter(text)
}

// enter makes an event an entry, and tells everybody.
func (s *Server) enter(event string) api.Errno {
	var e api.Entry
	errno := s.sign(func() (text string, errno api.Errno) {
		text = s.following(event)
		e, errno = s.keep.Make(event)
		return text, errno
	})
	if errno != api.OK {
		return errno
	}
	s.sendAll(api.MsgEntry, entryBody(e))
	return api.OK
}

// offer offers a server to be the hub, by an event that says so.
func (s *Server) offer(to int, event string) api.Errno {
	if s.open != nil {
		return api.ErrState
	}
	d, errno := s.deal(api.Deal{
		Kind:  api.DealOffer,
		Room:  s.room,
		Epoch: s.keep.Room().Epoch,
		Index: s.keep.Len(),
		Hub:   s.keep.Server(),
		Next:  to,
	})
	if errno != api.OK {
		return errno
	}
	s.open = &offer{d, strings.Clone(event)}
	s.send(api.MsgDeal, to, dealBody(d))
	return api.OK
}

// offerAgain sends the open offer again, or closes it, if the chain has gone on since.
func (s *Server) offerAgain() {
	if s.open == nil {
		return
	}
	if s.open.Index != s.keep.Len() {
		s.open = nil
		return
	}
	s.send(api.MsgDeal, s.open.Next, dealBody(s.open.Deal))
}

// deal is a deal, signed.
func (s *Server) deal(d api.Deal) (api.Deal, api.Errno) {
	errno := s.sign(func() (text string, errno api.Errno) {
		text, _ = handover.Text(d)
		d, errno = s.keep.Deal(d)
		return text, errno
	})
	return d, errno
}

// following is the signed text of the entry that would follow with an event.
func (s *Server) following(event string) string {
	text, _ := entry.Text(api.Entry{
		Room:  s.room,
		Epoch: s.keep.Room().Epoch,
		Index: s.keep.Len(),
		Prev:  s.keep.Last(),
		Event: event,
	})
	return text
}

// sign has the keep sign something by a step, which tells its text, and flushes what the step put.
func (s *Server) sign(step func() (text string, errno api.Errno)) api.Errno {
	before := s.keep.Next()
	text, errno := step()
	// What the book does not let the server sign may be signed all the same, though the step fails.
	if s.keep.Next() != before {
		s.signed = append(s.signed, text)
	}
	if errno == api.OK {
		s.keep.Flush()
	}
	return errno
}
