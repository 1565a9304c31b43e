package world

import (
	"palaver/api"
	"palaver/entry"
	"palaver/handover"
	"palaver/head"
	"palaver/octet"
	"palaver/server"
	"palaver/wire"
)

// Do does a deed.
func (w *World) Do(d api.Deed) api.Errno {
	w = w.known()
	switch d.Kind {
	case api.DeedClient, api.DeedTick, api.DeedGossip, api.DeedHead, api.DeedFail:
		return w.call(d.Who, func(s *server.Server) api.Errno { return act(s, d) })
	case api.DeedDeliver:
		return w.deliver(d.N)
	case api.DeedDrop:
		return w.net.Drop(d.N)
	case api.DeedDouble:
		return w.net.Double(d.N)
	case api.DeedInject:
		return w.net.Put(d.Text)
	case api.DeedForge:
		return w.forge(d.Who, d.N, d.Text)
	}
	return api.ErrForm
}

// call calls an honest server, and puts what goes out of it into the network.
func (w *World) call(who int, action func(*server.Server) api.Errno) api.Errno {
	s := w.Server(who)
	if s == nil {
		return api.ErrNone
	}
	errno := action(s)
	for _, text := range s.Out() {
		// The network counts what it has no room for.
		w.net.Put(text)
	}
	return errno
}

// act is what a server does of its own in a deed.
func act(s *server.Server, d api.Deed) api.Errno {
	switch d.Kind {
	case api.DeedClient:
		return s.Client(d.Text)
	case api.DeedTick:
		s.Tick()
	case api.DeedGossip:
		s.Gossip()
	case api.DeedHead:
		return s.Head()
	case api.DeedFail:
		s.Fail(d.N, d.Bits)
	}
	return api.OK
}

// deliver hands a message to the server to which it goes, if that one is honest.
func (w *World) deliver(i int) api.Errno {
	text, errno := w.net.Take(i)
	if errno != api.OK {
		return errno
	}
	m, errno := wire.Parse(text)
	if errno != api.OK || !w.Honest(m.To) {
		return api.OK
	}
	return w.call(m.To, func(s *server.Server) api.Errno { return s.Receive(text) })
}

// forge has a liar sign a text and send it to a server.
func (w *World) forge(who, to int, text string) api.Errno {
	if !w.has(who) || w.Honest(who) {
		return api.ErrNone
	}
	if !w.has(to) {
		return api.ErrRange
	}
	if len(text) > api.MaxText {
		return api.ErrLong
	}
	kind := kindOf(text)
	if kind == api.MsgNone {
		return api.ErrCode
	}
	sig, errno := w.members[who].ring.Sign(text)
	if errno != api.OK {
		return errno
	}
	m := api.Message{Kind: kind, From: who, To: to, Body: body(text, sig)}
	sent, errno := wire.Bytes(m)
	if errno != api.OK {
		return errno
	}
	return w.net.Put(sent)
}

// kindOf is the kind of the messages with a thing that has this signed text, or MsgNone.
func kindOf(text string) api.MsgKind {
	if _, errno := entry.Read(text); errno == api.OK {
		return api.MsgEntry
	}
	if _, errno := head.Read(text); errno == api.OK {
		return api.MsgHead
	}
	if _, errno := handover.Parse(body(text, "")); errno == api.OK {
		return api.MsgDeal
	}
	return api.MsgNone
}

// body is the encoding of the entry, the head or the deal with a signed text and a signature.
func body(text, sig string) string {
	// No error can come up: neither of the two is too long to be written.
	s, _ := octet.List(text, sig)
	return s
}
