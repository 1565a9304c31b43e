package server

import (
	"palaver/api"
	"palaver/entry"
	"palaver/handover"
	"palaver/wire"
)

// send puts a message out, or drops it.
func (s *Server) send(kind api.MsgKind, to int, body string) {
	text, errno := wire.Bytes(api.Message{Kind: kind, From: s.keep.Server(), To: to, Body: body})
	if errno != api.OK || len(s.out) >= api.MaxOut {
		s.dropped++
		return
	}
	s.out = append(s.out, text)
}

// sendAll puts a message to everybody out.
func (s *Server) sendAll(kind api.MsgKind, body string) {
	for to := range s.peers {
		if to != s.keep.Server() {
			s.send(kind, to, body)
		}
	}
}

// ask asks a server for what follows the chain.
func (s *Server) ask(to int) {
	// No chain is too long to be asked on.
	body, _ := wire.Ask(s.keep.Len())
	s.send(api.MsgAsk, to, body)
}

// submitDue sends the hub the events that are due.
func (s *Server) submitDue() {
	for _, mail := range s.box.Due(s.now) {
		s.send(api.MsgSubmit, s.keep.HubNow(), mail.Text)
	}
}

// entryBody is an entry as the body of a message.
func entryBody(e api.Entry) string {
	body, _ := entry.Bytes(e)
	return body
}

// dealBody is a deal as the body of a message.
func dealBody(d api.Deal) string {
	body, _ := handover.Bytes(d)
	return body
}
