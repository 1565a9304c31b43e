package proof

import (
	"cmp"
	"encoding/binary"
	"fmt"
	"math"
	"math/rand"
	"slices"
	"strings"
	"testing"
	"unsafe"

	"palaver/api"
	"palaver/entry"
	"palaver/head"
	"palaver/key"
	"palaver/sha"
)

// longest is a text of MaxText bytes.
var longest = strings.Repeat("x", api.MaxText)

// said is a text and its signature.
type said struct {
	text, sig string
}

// hub is a server that signs whatever it is asked to.
type hub struct {
	server int
	ring   *key.Ring
}

// newHub is a hub with a new key of a height.
func newHub(t *testing.T, server, high int) hub {
	t.Helper()
	r, errno := key.Make(api.Key{Seed: fmt.Sprint("hub ", server), High: high})
	if errno != api.OK {
		t.Fatalf("Make = %d", errno)
	}
	return hub{server, r}
}

// grant is the hub's, from one time to another.
func (h hub) grant(from, to int64) api.Grant {
	return api.Grant{Server: h.server, From: from, To: to, High: h.ring.Key().High, Root: h.ring.Root()}
}

// says is a text with the hub's signature.
func (h hub) says(t *testing.T, text string) said {
	t.Helper()
	sig, errno := h.ring.Sign(text)
	if errno != api.OK {
		t.Fatalf("Sign = %d", errno)
	}
	return said{text, sig}
}

// textOf is the signed text of an entry.
func textOf(t *testing.T, e api.Entry) string {
	t.Helper()
	text, errno := entry.Text(e)
	if errno != api.OK {
		t.Fatalf("Text of an entry = %d", errno)
	}
	return text
}

// headText is the signed text of a head.
func headText(t *testing.T, h api.Head) string {
	t.Helper()
	text, errno := head.Text(h)
	if errno != api.OK {
		t.Fatalf("Text of a head = %d", errno)
	}
	return text
}

// of is the proof that a server said two things.
func of(server int, a, b said) api.Proof {
	return api.Proof{Server: server, A: a.text, SigA: a.sig, B: b.text, SigB: b.sig}
}

// swapped is a proof with its texts and signatures exchanged.
func swapped(p api.Proof) api.Proof {
	return api.Proof{Server: p.Server, A: p.B, SigA: p.SigB, B: p.A, SigB: p.SigA}
}

// with is a proof that was changed.
func with(p api.Proof, change func(p *api.Proof)) api.Proof {
	change(&p)
	return p
}

// fifth is the chapter's entry, without a signature.
var fifth = api.Entry{Room: "!hall:0", Index: 5, Event: "x"}

// example is the chapter's proof, and a book by which its server signs.
func example(t *testing.T) ([]api.Grant, api.Proof) {
	t.Helper()
	h := newHub(t, 2, 1)
	a := h.says(t, textOf(t, fifth))
	b := h.says(t, headText(t, api.Head{Room: "!hall:0", Index: 5}))
	return []api.Grant{h.grant(0, 9)}, of(2, a, b)
}

// told is a proof with no more than the beginnings of its texts.
func told(p api.Proof) string {
	return fmt.Sprintf("{%d %.60q (%d bytes) %.10q (%d bytes) %.60q (%d bytes) %.10q (%d bytes)}",
		p.Server, p.A, len(p.A), p.SigA, len(p.SigA), p.B, len(p.B), p.SigB, len(p.SigB))
}

// wantCheck fails a test unless Check answers this.
func wantCheck(t *testing.T, b []api.Grant, p api.Proof, want api.Errno) {
	t.Helper()
	if errno := Check(b, p); errno != want {
		t.Errorf("Check(.., %s) = %d; want %d", told(p), errno, want)
	}
}

// wantSays fails a test unless Says answers this statement, or, if it is the zero head, ErrCode.
func wantSays(t *testing.T, text string, want api.Head) {
	t.Helper()
	wantErrno := api.OK
	if want == (api.Head{}) {
		wantErrno = api.ErrCode
	}
	if h, errno := Says(text); h != want || errno != wantErrno {
		t.Errorf("Says(%.60q) = %v, %d; want %v, %d", text, h, errno, want, wantErrno)
	}
}

// list is the encoding of a list of strings, by the library's numbers.
func list(l ...string) string {
	b := binary.AppendUvarint(nil, uint64(len(l)))
	for _, s := range l {
		b = append(binary.AppendUvarint(b, uint64(len(s))), s...)
	}
	return string(b)
}

// wantBytes is a proof's encoding, apart from the program's.
func wantBytes(p api.Proof) string {
	return list(string(binary.AppendUvarint(nil, uint64(p.Server))), p.A, p.SigA, p.B, p.SigB)
}

// wantCode fails a test unless Parse refuses s.
func wantCode(t *testing.T, s string) {
	t.Helper()
	if p, errno := Parse(s); p != (api.Proof{}) || errno != api.ErrCode {
		t.Errorf("Parse(%.80q) = %s, %d; want ErrCode", s, told(p), errno)
	}
}

// Promises 22.1 and 22.2: the chapter's examples.
func TestExamples(t *testing.T) {
	b, p := example(t)
	wantSays(t, p.B, api.Head{Room: "!hall:0", Index: 5})
	wantSays(t, "x", api.Head{})
	wantCheck(t, b, p, api.OK)
	wantCheck(t, b, with(p, func(p *api.Proof) { p.Server = 1 }), api.ErrNone)
	wantCheck(t, b, with(p, func(p *api.Proof) { p.B, p.SigB = p.A, p.SigA }), api.ErrTwice)
	wantCheck(t, b, api.Proof{}, api.ErrCode)
	s, errno := Bytes(p)
	if want := list("\x02", p.A, p.SigA, p.B, p.SigB); s != want || errno != api.OK {
		t.Errorf("Bytes = %.80q, %d; want %.80q", s, errno, want)
	}
	if got, errno := Parse(s); got != p || errno != api.OK {
		t.Errorf("Parse = %s, %d; want %s", told(got), errno, told(p))
	}
}

// Promise 22.1: what entries and heads state.
func TestSays(t *testing.T) {
	for _, e := range []api.Entry{
		{Room: "!hall:0"},
		fifth,
		{Room: "!abcdefghijklmnop:63", Epoch: api.MaxEvents, Index: api.MaxEvents - 1, Prev: sha.Sum("x"), Event: longest[:8000]},
		{Room: "!hall:0", Epoch: 3, Index: 128, Prev: api.Hash{31: 1}},
		{Room: "!hall:0", Event: longest}, // its signed text is longer than that of a proof may be
	} {
		text := textOf(t, e)
		want := api.Head{Room: e.Room, Epoch: e.Epoch, Index: e.Index, Sum: sha.Sum(text)}
		wantSays(t, text, want)
		wantSays(t, headText(t, want), want)
		want.Sum[0] ^= 1
		wantSays(t, headText(t, want), want)
	}
}

// Promise 22.1: texts that state nothing.
func TestSaysNothing(t *testing.T) {
	h := api.Head{Room: "!hall:0", Epoch: 1, Index: 5}
	hash := string(h.Sum[:])
	entryText, theirs := textOf(t, fifth), headText(t, h)
	entryBytes, _ := entry.Bytes(fifth)
	headBytes, _ := head.Bytes(h)
	for _, text := range []string{
		"", "x", "\x00", longest, strings.Repeat("\xff", 100),
		entryBytes, headBytes,
		entryText + "\x00", theirs + "\x00", entryText[1:], theirs[1:], entryText + theirs,
		list("entry", "!hall:0", "\x01", "\x05", hash),
		list("head", "!hall:0", "\x01", "\x05", hash, "x"),
		list("head", "@ann:0", "\x01", "\x05", hash),
		list("head", "!hall:0", "\x01", "\x81\x20", hash),
		list("entry", "!hall:0", "\x81\x20", "\x05", hash, "x"),
		list("head", "!hall:0", "\x01", "\x05", hash[1:]),
		list("entry", "!hall:0", "\x01", "\x05", hash+"\x00", "x"),
		list("offer", "!hall:0", "\x01", "\x05", "\x02", "\x01"),
		list("", "!hall:0", "\x01", "\x05", hash),
	} {
		wantSays(t, text, api.Head{})
	}
	for _, text := range []string{entryText, theirs} {
		for size := range len(text) {
			wantSays(t, text[:size], api.Head{})
		}
	}
}

// differing are texts about one place, each with another hash: entries and heads.
func differing(t *testing.T) []string {
	t.Helper()
	other, prev := fifth, fifth
	other.Event = "y"
	prev.Prev[31] = 1
	return []string{
		textOf(t, fifth), textOf(t, other), textOf(t, prev),
		headText(t, api.Head{Room: "!hall:0", Index: 5}), headText(t, api.Head{Room: "!hall:0", Index: 5, Sum: api.Hash{31: 1}}),
	}
}

// Promises 22.1 and 22.4: any two of these prove it, whichever comes first.
func TestCheck(t *testing.T) {
	h := newHub(t, 2, 3)
	b := []api.Grant{newHub(t, 1, 0).grant(0, 9), h.grant(5, 5)}
	var l []said
	for _, text := range differing(t) {
		l = append(l, h.says(t, text))
	}
	for i, a := range l {
		for j, c := range l {
			want := api.OK
			if i == j {
				want = api.ErrTwice
			}
			wantCheck(t, b, of(2, a, c), want)
			wantCheck(t, b, of(1, a, c), cmp.Or(want, api.ErrForm)) // the server 1 has a key of another height
			wantCheck(t, b, of(3, a, c), cmp.Or(want, api.ErrNone))
			wantCheck(t, nil, of(2, a, c), cmp.Or(want, api.ErrNone))
		}
	}
}

// Promise 22.1: an entry and its own head say the same, also if they are signed twice.
func TestSame(t *testing.T) {
	h := newHub(t, 2, 2)
	b := []api.Grant{h.grant(0, 9)}
	its, _ := head.Of(fifth)
	var l []said
	for _, text := range []string{textOf(t, fifth), headText(t, its), textOf(t, fifth), headText(t, its)} {
		l = append(l, h.says(t, text))
	}
	for _, a := range l {
		for _, c := range l {
			wantCheck(t, b, of(2, a, c), api.ErrTwice)
		}
	}
}

// Promise 22.1: statements about different rooms, epochs or indices prove nothing, whether or not their hashes differ.
func TestOtherPlace(t *testing.T) {
	h := newHub(t, 2, 4)
	b := []api.Grant{h.grant(0, api.MaxEvents)}
	first := api.Head{Room: "!hall:0", Epoch: 1, Index: 5, Sum: sha.Sum("x")}
	a := h.says(t, headText(t, first))
	for _, change := range []func(h *api.Head){
		func(h *api.Head) { h.Room = "!hall:1" },
		func(h *api.Head) { h.Room = "!hal:0" },
		func(h *api.Head) { h.Epoch = 0 },
		func(h *api.Head) { h.Epoch = 2 },
		func(h *api.Head) { h.Index = 4 },
		func(h *api.Head) { h.Index = 6 },
		func(h *api.Head) { h.Epoch, h.Index = 5, 1 },
	} {
		second := first
		change(&second)
		for range 2 {
			p := of(2, a, h.says(t, headText(t, second)))
			wantCheck(t, b, p, api.ErrLink)
			wantCheck(t, b, swapped(p), api.ErrLink)
			second.Sum = sha.Sum("y")
		}
	}
}

// Promise 22.1: the time of both signatures is the index.
func TestTime(t *testing.T) {
	old, later := newHub(t, 2, 4), newHub(t, 3, 4)
	later.server = 2
	b := []api.Grant{old.grant(3, 5), later.grant(6, 6)}
	for index, want := range map[int]api.Errno{2: api.ErrNone, 3: api.OK, 5: api.OK, 6: api.ErrSign, 7: api.ErrNone} {
		p := of(2, old.says(t, headText(t, api.Head{Room: "!hall:0", Index: index})), old.says(t, headText(t, api.Head{Room: "!hall:0", Index: index, Sum: api.Hash{1}})))
		wantCheck(t, b, p, want)
	}
	// The key of another time proves nothing, though it is the same server's.
	texts := differing(t)
	a, c := old.says(t, texts[0]), later.says(t, texts[1])
	wantCheck(t, b, of(2, a, c), api.ErrSign)
	wantCheck(t, b, of(2, c, a), api.ErrSign)
}

// fault is a change of a proof, and the error that it brings.
type fault struct {
	change func(p *api.Proof)
	want   api.Errno
}

// invalid are faults of a proof's form.
func invalid() []fault {
	l := []fault{
		{func(p *api.Proof) { p.A = longest + "x" }, api.ErrForm},
		{func(p *api.Proof) { p.SigA = longest + "x" }, api.ErrForm},
		{func(p *api.Proof) { p.B = longest + "x" }, api.ErrForm},
		{func(p *api.Proof) { p.SigB = longest + "x" }, api.ErrForm},
	}
	for _, server := range []int{-1, -2, math.MinInt, api.MaxServer + 1, 1<<32 + 2, math.MaxInt} {
		l = append(l, fault{func(p *api.Proof) { p.Server = server }, api.ErrForm})
	}
	return l
}

// faults are those of the chapter's proof, in the order in which they apply; so many of them are found ahead of verifying a signature.
func faults() (l [][]fault, ahead int) {
	return [][]fault{
		invalid(),
		{
			{func(p *api.Proof) { p.A = "" }, api.ErrCode},
			{func(p *api.Proof) { p.B = "" }, api.ErrCode},
			{func(p *api.Proof) { p.A = longest }, api.ErrCode},
			{func(p *api.Proof) { p.B += "\x00" }, api.ErrCode},
		},
		{
			{func(p *api.Proof) { p.A = strings.Replace(p.A, "!hall:0", "!hall:1", 1) }, api.ErrLink},
			{func(p *api.Proof) { p.B = strings.Replace(p.B, "\x01\x05", "\x01\x04", 1) }, api.ErrLink},
		},
		{
			{func(p *api.Proof) { p.B = p.A }, api.ErrTwice},
			{func(p *api.Proof) { p.A = p.B }, api.ErrTwice},
		},
		{
			{func(p *api.Proof) { p.Server = 1 }, api.ErrNone},
			{func(p *api.Proof) { p.SigA = p.SigA[1:] }, api.ErrForm},
			{func(p *api.Proof) { p.SigA = "" }, api.ErrForm},
			{func(p *api.Proof) { p.SigA = "\x01" + p.SigA[1:] }, api.ErrSign},
		},
		{
			{func(p *api.Proof) { p.SigB = p.SigB[1:] }, api.ErrForm},
			{func(p *api.Proof) { p.SigB = longest }, api.ErrForm},
			{func(p *api.Proof) { p.SigB = p.SigB[:len(p.SigB)-1] + "\x00" }, api.ErrSign},
			{func(p *api.Proof) { p.SigB = "\x00" + p.SigB[1:] }, api.ErrSign},
		},
	}, 4
}

// Promise 22.1: the first error applies. Each fault is put together with each one that comes later.
func TestCheckOrder(t *testing.T) {
	b, p := example(t)
	wantCheck(t, b, p, api.OK)
	l, ahead := faults()
	for i := range l {
		for _, f := range l[i] {
			wrong := with(p, f.change)
			wantCheck(t, b, wrong, f.want)
			for _, later := range slices.Concat(l[i+1:]...) {
				wantCheck(t, b, with(with(p, later.change), f.change), f.want)
			}
			// A book that is not valid is told where a signature is to be verified.
			if i < ahead {
				wantCheck(t, slices.Concat(b, b), wrong, f.want)
			} else {
				wantCheck(t, slices.Concat(b, b), wrong, api.ErrForm)
			}
		}
	}
	wantCheck(t, slices.Concat(b, b), p, api.ErrForm)
}

// Promise 22.1: texts and signatures of MaxText bytes are permitted.
func TestCheckLongest(t *testing.T) {
	e := fifth
	e.Event = longest[:len(longest)-len(textOf(t, fifth))]
	for len(textOf(t, e)) < api.MaxText {
		e.Event += "x"
	}
	h := newHub(t, 2, 1)
	b := []api.Grant{h.grant(0, 9)}
	p := of(2, h.says(t, textOf(t, e)), h.says(t, textOf(t, fifth)))
	if len(p.A) != api.MaxText {
		t.Fatalf("the text has %d bytes", len(p.A))
	}
	wantCheck(t, b, p, api.OK)
	wantCheck(t, b, swapped(p), api.OK)
	wantCheck(t, b, with(p, func(p *api.Proof) { p.SigA = longest }), api.ErrForm)
	e.Event += "x"
	wantCheck(t, b, with(p, func(p *api.Proof) { p.A = textOf(t, e) }), api.ErrForm)
}

// Promise 22.2.
func TestBytes(t *testing.T) {
	_, p := example(t)
	for _, p := range []api.Proof{
		p,
		{},
		{Server: api.MaxServer, A: longest, SigA: longest, B: longest, SigB: longest},
		{Server: 1, A: "a"},
		{Server: 1, SigA: "a"},
		{Server: 1, B: "a"},
		{Server: 1, SigB: "\x00"},
		{A: longest[:127], SigA: longest[:128], B: "\xff", SigB: "\x80"},
	} {
		want := wantBytes(p)
		if s, errno := Bytes(p); s != want || errno != api.OK {
			t.Errorf("Bytes(%s) = %.80q, %d; want %.80q", told(p), s, errno, want)
		}
		if got, errno := Parse(want); got != p || errno != api.OK {
			t.Errorf("Parse of the encoding = %s, %d; want %s", told(got), errno, told(p))
		}
	}
	for _, f := range invalid() {
		wrong := with(p, f.change)
		if s, errno := Bytes(wrong); s != "" || errno != api.ErrForm {
			t.Errorf("Bytes(%s) = %.80q, %d; want ErrForm", told(wrong), s, errno)
		}
		wantCode(t, wantBytes(wrong))
	}
}

// Promise 22.2: strings that are no proof's encoding.
func TestParseWrong(t *testing.T) {
	_, p := example(t)
	right := []string{"\x02", p.A, p.SigA, p.B, p.SigB}
	s := list(right...)
	for _, server := range []string{"", "\x40", "\x80", "\x82\x00", "\x02\x00", "\x02\x02", "\x80\x01", "\x82\x80\x80\x80\x10", strings.Repeat("\xff", 7)} {
		wantCode(t, list(append([]string{server}, right[1:]...)...))
	}
	for at := range right {
		wantCode(t, list(right[:at]...))
		wantCode(t, list(slices.Delete(slices.Clone(right), at, at+1)...))
		wantCode(t, list(slices.Insert(slices.Clone(right), at, "")...))
	}
	wantCode(t, list(append(slices.Clone(right), "")...))
	for b := range 256 {
		wantCode(t, s+string([]byte{byte(b)}))
	}
	for size := range len(s) {
		wantCode(t, s[:size])
	}
	for _, wrong := range []string{"x", "\x00", "\x85\x00" + s[1:], "\x05", "\x05\x00\x00\x00\x00\x00", s + s, s[1:], strings.Repeat("\xff", 100)} {
		wantCode(t, wrong)
	}
}

// Promise 22.2: what Parse takes is the encoding of its answer; what it answers need not prove anything.
func TestBackAndThere(t *testing.T) {
	source := rand.New(rand.NewSource(1))
	s := list("\x02", "a", "sig", longest[:130], "")
	taken := 0
	for at := range len(s) {
		for range 200 {
			b := []byte(s)
			b[at] = byte(source.Intn(256))
			if source.Intn(2) == 0 {
				b[source.Intn(len(b))] = byte(source.Intn(256))
			}
			p, errno := Parse(string(b))
			if errno != api.OK {
				wantCode(t, string(b))
				continue
			}
			taken++
			if again, errno := Bytes(p); again != string(b) || errno != api.OK {
				t.Fatalf("Parse(%.80q) = %s, whose encoding is %.80q, %d", b, told(p), again, errno)
			}
		}
	}
	if taken < 1000 {
		t.Errorf("Parse took only %d strings", taken)
	}
}

// Promise 22.3: whatever an honest hub signed, no two of its texts prove anything, and a text that it did not sign needs a signature that it did not make.
func TestNoHonestOne(t *testing.T) {
	h, liar := newHub(t, 2, 4), newHub(t, 3, 4)
	b := []api.Grant{h.grant(0, 9), liar.grant(0, 9)}
	var signed, strange []said
	for index := range 3 {
		for epoch := range 2 {
			e := api.Entry{Room: "!hall:0", Epoch: epoch, Index: index, Event: "x"}
			its, _ := head.Of(e)
			signed = append(signed, h.says(t, textOf(t, e)), h.says(t, headText(t, its)))
			e.Event = "y"
			its.Sum[0] ^= 1
			strange = append(strange, liar.says(t, textOf(t, e)), liar.says(t, headText(t, its)))
		}
	}
	wantCheck(t, b, of(3, strange[0], strange[1]), api.OK)
	for _, a := range signed {
		for _, c := range signed {
			if errno := Check(b, of(2, a, c)); errno != api.ErrLink && errno != api.ErrTwice {
				t.Errorf("Check(.., %s) = %d", told(of(2, a, c)), errno)
			}
		}
		for _, c := range strange {
			for _, sig := range []string{c.sig, a.sig, signed[0].sig, ""} {
				p := of(2, a, said{c.text, sig})
				for _, p := range []api.Proof{p, swapped(p)} {
					if errno := Check(b, p); errno == api.OK {
						t.Errorf("Check(.., %s) = OK", told(p))
					}
				}
			}
		}
	}
}

// Promise 22.4: a proof remains one the other way round, and what is none does not become one.
func TestEitherWay(t *testing.T) {
	b, p := example(t)
	wantCheck(t, b, swapped(p), api.OK)
	l, _ := faults()
	for _, f := range slices.Concat(l...) {
		wrong := with(p, f.change)
		if errno := Check(b, swapped(wrong)); errno == api.OK {
			t.Errorf("Check(.., %s) = OK", told(swapped(wrong)))
		}
	}
	// The signatures go with their texts.
	wantCheck(t, b, with(p, func(p *api.Proof) { p.A, p.B = p.B, p.A }), api.ErrSign)
	wantCheck(t, b, with(p, func(p *api.Proof) { p.SigA, p.SigB = p.SigB, p.SigA }), api.ErrSign)
}

// Promises 22.1 and 22.2, by the rule that an answer is new memory.
func TestNewMemory(t *testing.T) {
	_, p := example(t)
	for _, text := range []string{p.A, p.B} {
		h, _ := Says(text)
		apart(t, "Says", text, h.Room)
	}
	s, _ := Bytes(p)
	got, _ := Parse(s)
	for _, part := range []string{got.A, got.SigA, got.B, got.SigB} {
		apart(t, "Parse", s, part)
	}
}

// apart fails a test if a result lies inside an argument's memory.
func apart(t *testing.T, call, argument, result string) {
	t.Helper()
	from := uintptr(unsafe.Pointer(unsafe.StringData(argument)))
	at := uintptr(unsafe.Pointer(unsafe.StringData(result)))
	if from <= at && at < from+uintptr(len(argument)) {
		t.Errorf("%s: the result lies in the argument's memory", call)
	}
}
