package seen

import (
	"encoding/binary"
	"fmt"
	"math"
	"math/rand"
	"slices"
	"strings"
	"testing"
	"unsafe"

	"palaver/api"
	"palaver/entry"
	"palaver/head"
	"palaver/key"
	"palaver/proof"
	"palaver/sha"
)

// longest is a text of MaxText bytes.
var longest = strings.Repeat("x", api.MaxText)

// hub is a server with a key of one index, by which it signs whatever it is asked to.
type hub struct {
	server int
	key    api.Key
}

// newHub is a hub with a key of a seed.
func newHub(server int, seed string) hub {
	return hub{server, api.Key{Seed: seed}}
}

// grant is the hub's, from one time to another.
func (h hub) grant(t *testing.T, from, to int64) api.Grant {
	t.Helper()
	root, errno := key.Root(h.key)
	if errno != api.OK {
		t.Fatalf("Root = %d", errno)
	}
	return api.Grant{Server: h.server, From: from, To: to, Root: root}
}

// says is a text with the hub's signature.
func (h hub) says(t *testing.T, text string) said {
	t.Helper()
	_, sig, errno := key.Sign(h.key, text)
	if errno != api.OK {
		t.Fatalf("Sign = %d", errno)
	}
	return said{text, sig}
}

// entryText is the signed text of an entry.
func entryText(t *testing.T, e api.Entry) string {
	t.Helper()
	text, errno := entry.Text(e)
	if errno != api.OK {
		t.Fatalf("Text of an entry = %d", errno)
	}
	return text
}

// headText is the signed text of a head.
func headText(t *testing.T, h api.Head) string {
	t.Helper()
	text, errno := head.Text(h)
	if errno != api.OK {
		t.Fatalf("Text of a head = %d", errno)
	}
	return text
}

// hall is the head of the room !hall:0 in an epoch at an index, whose hash begins with a byte.
func hall(epoch, index int, first byte) api.Head {
	return api.Head{Room: "!hall:0", Epoch: epoch, Index: index, Sum: api.Hash{first}}
}

// record is a new record.
func record(t *testing.T, b ...api.Grant) *Seen {
	t.Helper()
	s, errno := New(b)
	if s == nil || errno != api.OK {
		t.Fatalf("New = %v, %d", s, errno)
	}
	return s
}

// told is a proof with no more than the beginnings of its texts.
func told(p api.Proof) string {
	return fmt.Sprintf("{%d %.60q %.10q %.60q %.10q}", p.Server, p.A, p.SigA, p.B, p.SigB)
}

// wantHear fails a test unless Hear answers no proof and this error.
func wantHear(t *testing.T, s *Seen, server int, a said, want api.Errno) {
	t.Helper()
	p, found, errno := s.Hear(server, a.text, a.sig)
	if p != (api.Proof{}) || found || errno != want {
		t.Errorf("Hear(%d, %.60q, %.10q (%d bytes)) = %s, %t, %d; want no proof and %d", server, a.text, a.sig, len(a.sig), told(p), found, errno, want)
	}
}

// wantProof fails a test unless Hear answers the proof of a text that was heard first and this one.
func wantProof(t *testing.T, s *Seen, b []api.Grant, server int, first, a said) {
	t.Helper()
	p, found, errno := s.Hear(server, a.text, a.sig)
	if want := (api.Proof{Server: server, A: first.text, SigA: first.sig, B: a.text, SigB: a.sig}); p != want || !found || errno != api.OK {
		t.Errorf("Hear(%d, %.60q, ..) = %s, %t, %d; want %s", server, a.text, told(p), found, errno, told(want))
	}
	if errno := proof.Check(b, p); errno != api.OK {
		t.Errorf("Hear(%d, %.60q, ..) = a proof of which Check says %d", server, a.text, errno)
	}
}

// wantFirst fails a test unless First answers this text, or, if it is empty, none.
func wantFirst(t *testing.T, s *Seen, server int, room string, epoch, index int, want string) {
	t.Helper()
	if text, is := s.First(server, room, epoch, index); text != want || is != (want != "") {
		t.Errorf("First(%d, %q, %d, %d) = %.60q, %t; want %.60q", server, room, epoch, index, text, is, want)
	}
}

// wantLen fails a test unless Len answers this.
func wantLen(t *testing.T, s *Seen, want int) {
	t.Helper()
	if n := s.Len(); n != want {
		t.Errorf("Len = %d; want %d", n, want)
	}
}

// Promises 26.1 and 26.2: the chapter's examples.
func TestExamples(tt *testing.T) {
	h := newHub(2, "s")
	b := []api.Grant{h.grant(tt, 0, 9)}
	s := record(tt, b...)
	wantLen(tt, s, 0)
	wantFirst(tt, s, 2, "!hall:0", 0, 5, "")
	t, u := h.says(tt, headText(tt, hall(0, 5, 0))), h.says(tt, headText(tt, hall(0, 5, 1)))
	wantHear(tt, s, 2, t, api.OK)
	wantHear(tt, s, 2, t, api.OK)
	wantProof(tt, s, b, 2, t, u)
	wantHear(tt, s, 1, u, api.ErrNone)
	wantHear(tt, s, 2, said{"x", ""}, api.ErrCode)
	wantLen(tt, s, 1)
	wantFirst(tt, s, 2, "!hall:0", 0, 5, t.text)
}

// Promise 26.1: a book that is not valid makes no record.
func TestNew(t *testing.T) {
	g, other := newHub(2, "s").grant(t, 0, 9), newHub(1, "o").grant(t, 0, 9)
	var full []api.Grant
	for i := range api.MaxGrants {
		full = append(full, api.Grant{Server: i / 4, From: int64(i % 4), To: int64(i % 4)})
	}
	for _, b := range [][]api.Grant{nil, {}, {g}, {other, g}, full} {
		wantLen(t, record(t, b...), 0)
	}
	for _, b := range [][]api.Grant{
		{g, other},
		{g, g},
		append(full, api.Grant{Server: 63, From: 4, To: 4}),
		{{Server: -1}}, {{Server: 64}}, {{From: -1}}, {{From: 1}}, {{To: api.MaxTime + 1}}, {{High: -1}}, {{High: api.MaxHigh + 1}},
	} {
		if s, errno := New(b); s != nil || errno != api.ErrForm {
			t.Errorf("New of a wrong book of %d grants = %v, %d; want nil, ErrForm", len(b), s, errno)
		}
	}
}

// Promise 26.1: without any grant, nobody is heard.
func TestNobody(t *testing.T) {
	a := newHub(2, "s").says(t, headText(t, hall(0, 5, 0)))
	var none *Seen
	for _, s := range []*Seen{record(t), none, {}} {
		wantHear(t, s, 2, a, api.ErrNone)
		wantHear(t, s, 2, said{"x", a.sig}, api.ErrCode)
		wantHear(t, s, 2, said{a.text, longest + "x"}, api.ErrLong)
		wantLen(t, s, 0)
		wantFirst(t, s, 2, "!hall:0", 0, 5, "")
	}
}

// Promises 26.1 and 26.2: each of server, room, epoch and index makes another position, whatever is said of it.
func TestPositions(t *testing.T) {
	hubs := []hub{newHub(0, "zero"), newHub(2, "two"), newHub(63, "last")}
	var b []api.Grant
	for _, h := range hubs {
		b = append(b, h.grant(t, 0, api.MaxEvents))
	}
	s := record(t, b...)
	texts := map[position]string{}
	for _, h := range hubs {
		for _, room := range []string{"!hall:0", "!hall:1", "!abcdefghijklmnop:63"} {
			for _, epoch := range []int{0, 5, api.MaxEvents} {
				for _, index := range []int{0, 5, api.MaxEvents} {
					text := headText(t, api.Head{Room: room, Epoch: epoch, Index: index, Sum: api.Hash{byte(len(texts))}})
					texts[position{h.server, room, epoch, index}] = text
					wantHear(t, s, h.server, h.says(t, text), api.OK)
					wantLen(t, s, len(texts))
				}
			}
		}
	}
	if len(texts) != 3*3*3*3 {
		t.Fatalf("%d positions", len(texts))
	}
	for at, text := range texts {
		wantFirst(t, s, at.server, at.room, at.epoch, at.index, text)
		wantFirst(t, s, at.server+1, at.room, at.epoch, at.index, "")
		wantFirst(t, s, at.server, at.room+"0", at.epoch, at.index, "")
		wantFirst(t, s, at.server, at.room, at.epoch+1, at.index, "")
		wantFirst(t, s, at.server, at.room, at.epoch, at.index+1, "")
	}
	for _, n := range []int{-1, math.MinInt, math.MaxInt, 1 << 32} {
		wantFirst(t, s, n, "!hall:0", 0, 0, "")
		wantFirst(t, s, 0, "!hall:0", n, 0, "")
		wantFirst(t, s, 0, "!hall:0", 0, n, "")
	}
	for _, room := range []string{"", "hall", "@hall:0", "!hall:2", longest + "x"} {
		wantFirst(t, s, 0, room, 0, 0, "")
	}
}

// Promise 26.2: entries and heads state hashes of one kind, and those that differ are found, whichever comes first; the first text remains the first.
func TestHear(t *testing.T) {
	h := newHub(2, "s")
	b := []api.Grant{h.grant(t, 0, 9)}
	e := api.Entry{Room: "!hall:0", Epoch: 1, Index: 5, Event: "x"}
	other, prev := e, e
	other.Event = "y"
	prev.Prev[31] = 1
	its, errno := head.Of(e)
	if errno != api.OK {
		t.Fatalf("Of = %d", errno)
	}
	near := its
	near.Sum[31] ^= 1
	var all []said
	for _, text := range []string{entryText(t, e), headText(t, its), entryText(t, other), entryText(t, prev), headText(t, near), headText(t, hall(1, 5, 0))} {
		all = append(all, h.says(t, text))
	}
	for i, first := range all {
		s := record(t, b...)
		wantHear(t, s, 2, first, api.OK)
		for range 2 {
			for j, a := range all {
				if same := i == j || i < 2 && j < 2; same { // the entry and its head
					wantHear(t, s, 2, a, api.OK)
				} else {
					wantProof(t, s, b, 2, first, a)
				}
				wantLen(t, s, 1)
				wantFirst(t, s, 2, "!hall:0", 1, 5, first.text)
			}
		}
	}
}

// Promise 26.2: a proof has the signature with which the recorded text was heard first, and that of the other one.
func TestSignatures(t *testing.T) {
	k := api.Key{Seed: "s", High: 1}
	root, _ := key.Root(k)
	b := []api.Grant{{Server: 2, To: 9, High: 1, Root: root}}
	text, lie := headText(t, hall(0, 5, 0)), headText(t, hall(0, 5, 1))
	k, one, _ := key.Sign(k, text)
	_, two, errno := key.Sign(k, text)
	if one == two || errno != api.OK {
		t.Fatalf("the second signature is the first one, or %d", errno)
	}
	_, a, _ := key.Sign(k, lie)
	_, c, _ := key.Sign(api.Key{Seed: "s", High: 1}, lie)
	s := record(t, b...)
	wantHear(t, s, 2, said{text, two}, api.OK)
	wantHear(t, s, 2, said{text, one}, api.OK)
	wantProof(t, s, b, 2, said{text, two}, said{lie, a})
	wantProof(t, s, b, 2, said{text, two}, said{lie, c})
}

// Promise 26.2: the time of a signature is the index.
func TestTime(t *testing.T) {
	old, later := newHub(2, "old"), newHub(2, "later")
	b := []api.Grant{old.grant(t, 3, 5), later.grant(t, 6, 6)}
	s := record(t, b...)
	for index, want := range map[int]api.Errno{0: api.ErrNone, 2: api.ErrNone, 3: api.OK, 5: api.OK, 6: api.ErrSign, 7: api.ErrNone, api.MaxEvents: api.ErrNone} {
		wantHear(t, s, 2, old.says(t, headText(t, hall(4, index, 0))), want)
	}
	wantLen(t, s, 2)
	wantHear(t, s, 2, later.says(t, headText(t, hall(9, 6, 0))), api.OK)
	wantHear(t, s, 2, later.says(t, headText(t, hall(9, 5, 0))), api.ErrSign)
	wantHear(t, s, 2, later.says(t, entryText(t, api.Entry{Room: "!hall:0", Index: 2})), api.ErrNone)
	wantLen(t, s, 3)
}

// try is what is given to Hear.
type try struct {
	server int
	said
}

// fault is a change of what is given to Hear, and the error that it brings.
type fault struct {
	change func(a *try)
	want   api.Errno
}

// faults are those of what is given to Hear, in the order in which they apply.
func faults() [][]fault {
	return [][]fault{
		{
			{func(a *try) { a.text = longest + "x" }, api.ErrLong},
			{func(a *try) { a.sig = longest + "x" }, api.ErrLong},
			{func(a *try) { a.text, a.sig = longest+longest, longest+longest }, api.ErrLong},
		},
		{
			{func(a *try) { a.text = "" }, api.ErrCode},
			{func(a *try) { a.text = "x" }, api.ErrCode},
			{func(a *try) { a.text = longest }, api.ErrCode},
			{func(a *try) { a.text += "\x00" }, api.ErrCode},
			{func(a *try) { a.text = strings.Replace(a.text, "head", "heat", 1) }, api.ErrCode},
		},
		{
			{func(a *try) { a.server = 1 }, api.ErrNone},
			{func(a *try) { a.server = -1 }, api.ErrNone},
			{func(a *try) { a.server = 64 }, api.ErrNone},
			{func(a *try) { a.server = 1<<32 + 2 }, api.ErrNone},
			{func(a *try) { a.server = math.MinInt }, api.ErrNone},
			{func(a *try) { a.sig = "" }, api.ErrForm},
			{func(a *try) { a.sig = longest }, api.ErrForm},
			{func(a *try) { a.sig = a.sig[1:] }, api.ErrForm},
			{func(a *try) { a.sig += "\x00" }, api.ErrForm},
			{func(a *try) { a.sig = "\x01" + a.sig[1:] }, api.ErrForm},
			{func(a *try) { a.sig = a.sig[:500] + string([]byte{a.sig[500] ^ 1}) + a.sig[501:] }, api.ErrSign},
			{func(a *try) { a.server = 3 }, api.ErrSign},
			{func(a *try) { a.text = strings.Replace(a.text, "!hall:0", "!hall:1", 1) }, api.ErrSign},
		},
	}
}

// Promise 26.2: the first error applies, and what brings one is not heard. Each fault is put together with each one that comes later.
func TestOrder(t *testing.T) {
	h, third := newHub(2, "s"), newHub(3, "third")
	b := []api.Grant{h.grant(t, 0, 9), third.grant(t, 0, 9)}
	right, lie := h.says(t, headText(t, hall(1, 5, 0))), h.says(t, headText(t, hall(1, 5, 1)))
	fresh, heard := record(t, b...), record(t, b...)
	wantHear(t, heard, 2, lie, api.OK)
	for i, l := range faults() {
		for _, f := range l {
			for _, later := range append(slices.Concat(faults()[i+1:]...), fault{func(*try) {}, api.OK}) {
				a := try{2, right}
				later.change(&a)
				f.change(&a)
				wantHear(t, fresh, a.server, a.said, f.want)
				wantHear(t, heard, a.server, a.said, f.want)
			}
		}
	}
	wantLen(t, fresh, 0)
	wantLen(t, heard, 1)
	wantFirst(t, heard, 2, "!hall:0", 1, 5, lie.text)
	wantHear(t, fresh, 2, right, api.OK)
	wantProof(t, heard, b, 2, lie, right)
}

// Promise 26.2: a text of MaxText bytes is heard.
func TestLongest(t *testing.T) {
	h := newHub(2, "s")
	b := []api.Grant{h.grant(t, 0, 9)}
	e := api.Entry{Room: "!hall:0", Index: 5}
	e.Event = longest[:api.MaxText-len(entryText(t, e))-1] // the length takes one more byte
	first := h.says(t, entryText(t, e))
	if len(first.text) != api.MaxText {
		t.Fatalf("the text has %d bytes", len(first.text))
	}
	s := record(t, b...)
	wantHear(t, s, 2, first, api.OK)
	e.Event = "y" + e.Event[1:]
	wantProof(t, s, b, 2, first, h.says(t, entryText(t, e)))
	e.Event += "x"
	wantHear(t, s, 2, h.says(t, entryText(t, e)), api.ErrLong)
}

// Promise 26.2: when MaxSeen positions are recorded, no other one is, and those that are go on to be heard.
func TestFull(t *testing.T) {
	h := newHub(2, "s")
	b := []api.Grant{h.grant(t, 0, api.MaxEvents)}
	s := record(t, b...)
	first := func(i int) said { return h.says(t, headText(t, hall(i%2, i/2, 0))) }
	for i := range api.MaxSeen {
		wantHear(t, s, 2, first(i), api.OK)
	}
	wantLen(t, s, api.MaxSeen)
	more := try{2, first(api.MaxSeen)}
	for range 2 {
		wantHear(t, s, 2, more.said, api.ErrFull)
		wantHear(t, s, 2, h.says(t, entryText(t, api.Entry{Room: "!hall:1"})), api.ErrFull)
	}
	for _, i := range []int{0, 1, 1000, api.MaxSeen - 1} {
		wantHear(t, s, 2, first(i), api.OK)
		wantProof(t, s, b, 2, first(i), h.says(t, headText(t, hall(i%2, i/2, 1))))
		wantFirst(t, s, 2, "!hall:0", i%2, i/2, first(i).text)
	}
	for _, f := range slices.Concat(faults()...) {
		a := more
		f.change(&a)
		if a.server == 3 { // which this book does not have
			f.want = api.ErrNone
		}
		wantHear(t, s, a.server, a.said, f.want)
	}
	wantLen(t, s, api.MaxSeen)
	wantFirst(t, s, 2, "!hall:0", 0, api.MaxSeen/2, "")
	wantFirst(t, s, 2, "!hall:1", 0, 0, "")
}

// Promise 26.2: only signed texts of entries and heads are statements; what is signed otherwise is not heard.
func TestNothingElse(t *testing.T) {
	h := newHub(2, "s")
	s := record(t, h.grant(t, 0, 9))
	its := hall(0, 5, 0)
	encoding, errno := head.Bytes(its)
	if errno != api.OK {
		t.Fatalf("Bytes = %d", errno)
	}
	hash := string(its.Sum[:])
	for _, text := range []string{
		encoding,
		list("offer", "!hall:0", "\x00", "\x05", "\x02", "\x01"),
		list("entry", "!hall:0", "\x00", "\x05", hash),
		list("head", "!hall:0", "\x00", "\x05", hash, ""),
		list("head", "@ann:0", "\x00", "\x05", hash),
		list("head", "!hall:0", "\x00", "\x85\x00", hash),
	} {
		wantHear(t, s, 2, h.says(t, text), api.ErrCode)
	}
	wantLen(t, s, 0)
	wantHear(t, s, 2, h.says(t, list("head", "!hall:0", "\x00", "\x05", hash)), api.OK)
}

// list is the encoding of a list of strings, by the library's numbers.
func list(l ...string) string {
	b := binary.AppendUvarint(nil, uint64(len(l)))
	for _, s := range l {
		b = append(binary.AppendUvarint(b, uint64(len(s))), s...)
	}
	return string(b)
}

// Promise 26.3: of many statements in a random order, those that differ from the first one about their position are found, and no other ones.
func TestFoundOut(t *testing.T) {
	source := rand.New(rand.NewSource(1))
	hubs := []hub{newHub(0, "zero"), newHub(2, "two")}
	b := []api.Grant{hubs[0].grant(t, 0, 9), hubs[1].grant(t, 0, 9)}
	for range 20 {
		s := record(t, b...)
		firsts := map[string]said{}
		proofs := 0
		for range 60 {
			h := hubs[source.Intn(2)]
			its, text := someStatement(t, source)
			a := h.says(t, text)
			if source.Intn(8) == 0 { // somebody else's signature
				wantHear(t, s, h.server, newHub(h.server, "thief").says(t, text), api.ErrSign)
				continue
			}
			at := fmt.Sprint(h.server, its.Room, its.Epoch, its.Index)
			first, heard := firsts[at]
			if !heard {
				firsts[at] = a
			}
			if was, _ := proof.Says(first.text); heard && was.Sum != its.Sum {
				wantProof(t, s, b, h.server, first, a)
				proofs++
			} else {
				wantHear(t, s, h.server, a, api.OK)
			}
			wantFirst(t, s, h.server, its.Room, its.Epoch, its.Index, firsts[at].text)
			wantLen(t, s, len(firsts))
		}
		if proofs < 10 || len(firsts) < 10 {
			t.Errorf("only %d proofs and %d positions", proofs, len(firsts))
		}
	}
}

// someStatement is a statement of few positions and hashes, and an entry's or a head's text that says it.
func someStatement(t *testing.T, source *rand.Rand) (api.Head, string) {
	t.Helper()
	e := api.Entry{
		Room:  []string{"!hall:0", "!hall:2"}[source.Intn(2)],
		Epoch: source.Intn(2),
		Index: source.Intn(3),
		Event: []string{"x", "y"}[source.Intn(2)],
	}
	text := entryText(t, e)
	its := api.Head{Room: e.Room, Epoch: e.Epoch, Index: e.Index, Sum: sha.Sum(text)}
	if source.Intn(2) == 0 {
		return its, text
	}
	return its, headText(t, its)
}

// Promises 26.1 and 26.2: a record is not another one, and a book that is changed after New does not change it.
func TestApart(t *testing.T) {
	h := newHub(2, "s")
	b := []api.Grant{h.grant(t, 0, 9)}
	right := slices.Clone(b)
	s, other := record(t, b...), record(t, b...)
	b[0] = api.Grant{Server: 9}
	first, lie := h.says(t, headText(t, hall(0, 5, 0))), h.says(t, headText(t, hall(0, 5, 1)))
	wantHear(t, s, 2, first, api.OK)
	wantHear(t, other, 2, lie, api.OK)
	wantProof(t, s, right, 2, first, lie)
	wantProof(t, other, right, 2, lie, first)
}

// Promises 26.1 and 26.2, by the rule that an answer is new memory and that no argument is kept.
func TestNewMemory(t *testing.T) {
	h := newHub(2, "s")
	s := record(t, h.grant(t, 0, 9))
	first, lie := h.says(t, headText(t, hall(0, 5, 0))), h.says(t, headText(t, hall(0, 5, 1)))
	wantHear(t, s, 2, first, api.OK)
	text, _ := s.First(2, "!hall:0", 0, 5)
	apart(t, "First", first.text, text)
	p, _, _ := s.Hear(2, lie.text, lie.sig)
	again, _, _ := s.Hear(2, lie.text, lie.sig)
	apart(t, "Hear", first.text, p.A)
	apart(t, "Hear", first.sig, p.SigA)
	apart(t, "Hear", lie.text, p.B)
	apart(t, "Hear", lie.sig, p.SigB)
	apart(t, "Hear", p.A, again.A)
	apart(t, "Hear", p.SigA, again.SigA)
	apart(t, "First", text, p.A)
}

// apart fails a test if a result lies inside an argument's memory, or that of another result.
func apart(t *testing.T, call, argument, result string) {
	t.Helper()
	from := uintptr(unsafe.Pointer(unsafe.StringData(argument)))
	at := uintptr(unsafe.Pointer(unsafe.StringData(result)))
	if from <= at && at < from+uintptr(len(argument)) {
		t.Errorf("%s: the result lies in the argument's memory", call)
	}
}
