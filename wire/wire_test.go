package wire

import (
	"encoding/binary"
	"fmt"
	"math"
	"math/rand"
	"slices"
	"strings"
	"testing"
	"unsafe"

	"palaver/api"
	"palaver/entry"
	"palaver/event"
	"palaver/handover"
	"palaver/head"
	"palaver/proof"
)

// ask is the chapter's message, and askBytes its encoding, both written out by hand.
var (
	ask      = api.Message{Kind: api.MsgAsk, From: 1, To: 2, Body: "\xac\x02"}
	askBytes = "\x04" + "\x03ask" + "\x01\x01" + "\x01\x02" + "\x02\xac\x02"
)

// wantWords are the words of the kinds, in their order, apart from the program's.
var wantWords = []string{"submit", "reject", "entry", "head", "ask", "proof", "deal"}

// list is the encoding of a list of strings, by the library's numbers.
func list(l ...string) string {
	b := binary.AppendUvarint(nil, uint64(len(l)))
	for _, s := range l {
		b = append(binary.AppendUvarint(b, uint64(len(s))), s...)
	}
	return string(b)
}

// varint is the encoding of a number, by the library.
func varint(n int) string {
	return string(binary.AppendUvarint(nil, uint64(n)))
}

// with is a message that was changed.
func with(m api.Message, change func(m *api.Message)) api.Message {
	change(&m)
	return m
}

// wantBytes is a message's encoding, apart from the program's; a wrong kind has the word "none".
func wantBytes(m api.Message) string {
	word := "none"
	if i := int(m.Kind) - 1; 0 <= i && i < len(wantWords) {
		word = wantWords[i]
	}
	return list(word, varint(m.From), varint(m.To), m.Body)
}

// told is a message with no more than the beginning of its body.
func told(m api.Message) string {
	return fmt.Sprintf("{%d %d %d %.40q (%d bytes)}", m.Kind, m.From, m.To, m.Body, len(m.Body))
}

// right is a body that was made without an error.
func right(body string, errno api.Errno) string {
	if errno != api.OK {
		panic(fmt.Sprint("a body that is not made: ", errno))
	}
	return body
}

// bodies are right bodies of each kind, with edges of what may be; no two kinds have a body in common.
func bodies() map[api.MsgKind][]string {
	longest := strings.Repeat("y", api.MaxText)
	hash := string(make([]byte, 32))
	first := api.Entry{Room: "!hall:0", Event: "x"}
	text := right(entry.Text(first))
	offer := api.Deal{Kind: api.DealOffer, Room: "!hall:0", Next: 1}
	all := map[api.MsgKind][]string{
		api.MsgSubmit: {
			right(event.Bytes(api.Event{Room: "!hall:0", Sender: "@ann:0", Kind: api.EventCreate})),
			right(event.Bytes(api.Event{Room: "!hall:0", Sender: "@ann:3", Kind: api.EventMember, Key: "@bob:1", Body: "ban"})),
			right(event.Bytes(api.Event{Room: "!abcdefghijklmnop:63", Sender: "@abcdefghijklmnop:63", Kind: api.EventMessage, Body: longest[:api.MaxBody], Nonce: api.MaxNonce})),
		},
		api.MsgReject: {
			list(hash, "\x01"),
			list(hash, "\x0f"),
			list(strings.Repeat("\xff", 32), "\x0c"),
		},
		api.MsgEntry: {
			right(entry.Bytes(first)),
			right(entry.Bytes(api.Entry{Room: "!hall:63", Epoch: api.MaxEvents, Index: api.MaxEvents, Prev: api.Hash{31: 255}, Event: "x", Sig: longest[:1088]})),
			right(entry.Bytes(api.Entry{Room: "!hall:0"})),
		},
		api.MsgHead: {
			right(head.Bytes(api.Head{Room: "!hall:0"})),
			right(head.Bytes(api.Head{Room: "!hall:63", Epoch: api.MaxEvents, Index: api.MaxEvents, Sum: api.Hash{1}, Sig: longest[:1088]})),
		},
		api.MsgAsk: {"\x00", "\x01", "\x7f", "\x80\x01", "\xac\x02", "\xff\x1f", "\x80\x20"},
		api.MsgProof: {
			right(proof.Bytes(api.Proof{})),
			right(proof.Bytes(api.Proof{Server: api.MaxServer, A: text, SigA: "x", B: "y", SigB: "z"})),
		},
		api.MsgDeal: {
			right(handover.Bytes(offer)),
			right(handover.Bytes(api.Deal{Kind: api.DealAccept, Room: "!hall:0", Epoch: api.MaxEvents, Index: 128, Hub: api.MaxServer, Sig: longest[:1088]})),
		},
	}
	for kind, b := range longestBodies() {
		all[kind] = append(all[kind], b)
	}
	return all
}

// longestBodies are right bodies of MaxText bytes, of the kinds that have such.
func longestBodies() map[api.MsgKind]string {
	return map[api.MsgKind]string{
		api.MsgEntry: filled(api.MaxText, func(sig string) string { return right(entry.Bytes(api.Entry{Room: "!hall:0", Sig: sig})) }),
		api.MsgHead:  filled(api.MaxText, func(sig string) string { return right(head.Bytes(api.Head{Room: "!hall:0", Sig: sig})) }),
		api.MsgProof: filled(api.MaxText, func(sig string) string { return right(proof.Bytes(api.Proof{SigB: sig})) }),
		api.MsgDeal: filled(api.MaxText, func(sig string) string {
			return right(handover.Bytes(api.Deal{Kind: api.DealOffer, Room: "!hall:0", Next: 1, Sig: sig}))
		}),
	}
}

// filled is what a signature of the right length makes of this size.
func filled(size int, of func(sig string) string) string {
	sig := strings.Repeat("y", size-len(of(strings.Repeat("y", 5000)))+5000)
	return of(sig)
}

// kinds are the kinds, in their order.
func kinds() []api.MsgKind {
	return []api.MsgKind{api.MsgSubmit, api.MsgReject, api.MsgEntry, api.MsgHead, api.MsgAsk, api.MsgProof, api.MsgDeal}
}

// validMessages are valid messages of all kinds.
func validMessages() []api.Message {
	var l []api.Message
	all := bodies()
	for _, kind := range kinds() {
		for _, body := range all[kind] {
			for _, ends := range [][2]int{{0, 0}, {1, 2}, {2, 1}, {0, api.MaxServer}, {api.MaxServer, 0}, {api.MaxServer, api.MaxServer}} {
				l = append(l, api.Message{Kind: kind, From: ends[0], To: ends[1], Body: body})
			}
		}
	}
	return l
}

// wrongServers are numbers of no servers, and wrongKinds no kinds.
func wrongServers() []int {
	return []int{-1, -2, math.MinInt, api.MaxServer + 1, 128, 255, 256, 1 << 32, 1<<32 + 1, api.MaxNum, api.MaxNum + 1, math.MaxInt}
}

func wrongKinds() []api.MsgKind {
	return []api.MsgKind{api.MsgNone, api.MsgCount, api.MsgCount + 1, 64, 127, 128, 254, 255}
}

// wantCheck fails a test unless Check answers this, and Bytes the same error.
func wantCheck(t *testing.T, m api.Message, want api.Errno) {
	t.Helper()
	if errno := Check(m); errno != want {
		t.Errorf("Check(%s) = %d; want %d", told(m), errno, want)
	}
	s, errno := Bytes(m)
	if errno != want || want != api.OK && s != "" || want == api.OK && s != wantBytes(m) {
		t.Errorf("Bytes(%s) = %.80q, %d; want %d", told(m), s, errno, want)
	}
}

// wantCode fails a test unless Parse refuses s.
func wantCode(t *testing.T, s string) {
	t.Helper()
	if m, errno := Parse(s); m != (api.Message{}) || errno != api.ErrCode {
		t.Errorf("Parse(%.80q) = %s, %d; want ErrCode", s, told(m), errno)
	}
}

// Promises 25.1 and 25.2: the chapter's examples.
func TestExamples(t *testing.T) {
	if body, errno := Ask(300); body != ask.Body || errno != api.OK {
		t.Errorf("Ask(300) = %q, %d", body, errno)
	}
	if n, errno := Asked(ask.Body); n != 300 || errno != api.OK {
		t.Errorf("Asked = %d, %d", n, errno)
	}
	wantCheck(t, ask, api.OK)
	wantCheck(t, api.Message{}, api.ErrForm)
	wantCheck(t, with(ask, func(m *api.Message) { m.Kind = api.MsgSubmit }), api.ErrCode)
	if s, errno := Bytes(ask); s != askBytes || errno != api.OK {
		t.Errorf("Bytes = %q, %d; want %q", s, errno, askBytes)
	}
	if m, errno := Parse(askBytes); m != ask || errno != api.OK {
		t.Errorf("Parse = %s, %d; want %s", told(m), errno, told(ask))
	}
	for b := range 256 {
		wantCode(t, askBytes+string([]byte{byte(b)}))
	}
	h := api.Hash{7, 31: 9}
	body, errno := Reject(h, api.ErrAuth)
	if want := "\x02\x20" + string(h[:]) + "\x01\x0c"; body != want || errno != api.OK {
		t.Errorf("Reject = %q, %d; want %q", body, errno, want)
	}
	if sum, code, errno := Rejected(body); sum != h || code != api.ErrAuth || errno != api.OK {
		t.Errorf("Rejected = %v, %d, %d", sum, code, errno)
	}
	if body, errno := Reject(h, api.OK); body != "" || errno != api.ErrRange {
		t.Errorf("Reject with OK = %q, %d; want ErrRange", body, errno)
	}
}

// Promise 25.1.
func TestValid(t *testing.T) {
	for _, m := range validMessages() {
		wantCheck(t, m, api.OK)
		if got, errno := Parse(wantBytes(m)); got != m || errno != api.OK {
			t.Errorf("Parse of the encoding of %s = %s, %d", told(m), told(got), errno)
		}
	}
}

// Promise 25.1: the words of the kinds, and the order of the list.
func TestWords(t *testing.T) {
	all := bodies()
	for i, kind := range kinds() {
		body := all[kind][0]
		s, errno := Bytes(api.Message{Kind: kind, From: 5, To: 63, Body: body})
		if want := list(wantWords[i], "\x05", "\x3f", body); s != want || errno != api.OK {
			t.Errorf("Bytes of kind %d = %.80q, %d; want %.80q", kind, s, errno, want)
		}
	}
}

// Promise 25.1: what is out of range is told ahead of all else.
func TestForm(t *testing.T) {
	tooLong := strings.Repeat("\x00", api.MaxText+1)
	for _, m := range []api.Message{ask, with(ask, func(m *api.Message) { m.Body = "" }), with(ask, func(m *api.Message) { m.Body = tooLong })} {
		for _, n := range wrongServers() {
			wantCheck(t, with(m, func(m *api.Message) { m.From = n }), api.ErrForm)
			wantCheck(t, with(m, func(m *api.Message) { m.To = n }), api.ErrForm)
			wantCheck(t, with(m, func(m *api.Message) { m.From, m.To = n, n }), api.ErrForm)
		}
		for _, kind := range wrongKinds() {
			wantCheck(t, with(m, func(m *api.Message) { m.Kind = kind }), api.ErrForm)
		}
	}
	// No body makes a wrong kind right.
	for _, l := range bodies() {
		for _, kind := range wrongKinds() {
			wantCheck(t, api.Message{Kind: kind, Body: l[0]}, api.ErrForm)
		}
	}
}

// Promise 25.1: a body that is too long is told ahead of one that is not what its kind requires.
func TestLong(t *testing.T) {
	for kind, body := range longestBodies() {
		m := api.Message{Kind: kind, To: 1, Body: body}
		if len(body) != api.MaxText {
			t.Fatalf("the longest body of kind %d has %d bytes", kind, len(body))
		}
		wantCheck(t, m, api.OK)
	}
	for kind, of := range map[api.MsgKind]func(sig string) string{
		api.MsgEntry: func(sig string) string { return right(entry.Bytes(api.Entry{Room: "!hall:0", Sig: sig})) },
		api.MsgHead:  func(sig string) string { return right(head.Bytes(api.Head{Room: "!hall:0", Sig: sig})) },
		api.MsgProof: func(sig string) string { return right(proof.Bytes(api.Proof{SigB: sig})) },
	} {
		m := api.Message{Kind: kind, To: 1, Body: filled(api.MaxText+1, of)}
		wantCheck(t, m, api.ErrLong)
		wantCode(t, wantBytes(m))
	}
	for _, kind := range kinds() {
		for _, size := range []int{api.MaxText + 1, 2 * api.MaxText, 1 << 20} {
			m := api.Message{Kind: kind, Body: strings.Repeat("\x00", size)}
			wantCheck(t, m, api.ErrLong)
			wantCode(t, wantBytes(m))
		}
		wantCheck(t, api.Message{Kind: kind, Body: strings.Repeat("\x00", api.MaxText)}, api.ErrCode)
	}
}

// Promise 25.1: a body of one kind is none of another kind, nor is it with a byte more or less.
func TestBody(t *testing.T) {
	for of, l := range bodies() {
		for _, body := range l {
			for _, kind := range kinds() {
				want := api.ErrCode
				if kind == of {
					want = api.OK
				}
				m := api.Message{Kind: kind, From: 1, To: 2, Body: body}
				wantCheck(t, m, want)
				if want != api.OK {
					wantCode(t, wantBytes(m))
				}
			}
			if len(body) == api.MaxText {
				continue
			}
			m := api.Message{Kind: of, From: 1, To: 2, Body: body + "\x00"}
			wantCheck(t, m, api.ErrCode)
			wantCode(t, wantBytes(m))
			m.Body = body[:len(body)-1]
			wantCheck(t, m, api.ErrCode)
			wantCode(t, wantBytes(m))
		}
	}
	for _, kind := range kinds() {
		for _, body := range []string{"", "x", "\xff", strings.Repeat("\xff", 100), askBytes} {
			if kind == api.MsgAsk && body == "x" { // the number 120
				continue
			}
			m := api.Message{Kind: kind, From: 1, To: 2, Body: body}
			wantCheck(t, m, api.ErrCode)
			wantCode(t, wantBytes(m))
		}
	}
}

// Promise 25.1: a body need not say what holds, only what is such a thing.
func TestBodyOnlyRead(t *testing.T) {
	for _, m := range []api.Message{
		{Kind: api.MsgEntry, Body: right(entry.Bytes(api.Entry{Room: "!hall:0", Event: "no event", Sig: "no signature"}))},
		{Kind: api.MsgProof, Body: right(proof.Bytes(api.Proof{A: "no statement"}))},
		{Kind: api.MsgHead, From: 9, To: 9, Body: right(head.Bytes(api.Head{Room: "!other:5"}))},
	} {
		wantCheck(t, m, api.OK)
	}
}

// Promise 25.1: strings that are no message's encoding, for each of their parts.
func TestParseWrong(t *testing.T) {
	parts := []string{"ask", "\x01", "\x02", "\xac\x02"}
	if list(parts...) != askBytes {
		t.Fatal("the parts are not those of the example")
	}
	change := func(at int, part string) {
		l := slices.Clone(parts)
		l[at] = part
		wantCode(t, list(l...))
	}
	for _, word := range []string{"", "none", "count", "as", "asks", "Ask", "ASK", "ask ", " ask", "ask\x00", "\x03ask", "\x05", "5", "submit", "reject", "entry", "head", "proof", "deal", "offer", "accept", "message"} {
		change(0, word)
	}
	for _, number := range []string{
		"", "\x80", "\x81\x00", "\x82\x00", "\x01\x00", "\x01\x01", "\x01\xff", "\x40", "\x7f", "\x80\x01", "01", "12", "a",
		varint(1<<32 + 1), varint(api.MaxNum), varint(api.MaxNum + 1), varint(-1), strings.Repeat("\x80", 7),
	} {
		change(1, number)
		change(2, number)
	}
	for _, body := range []string{"", "\x80", "\xac\x82\x00", "\xac\x02\x00", "\x81\x20", varint(api.MaxNum + 1)} {
		change(3, body)
	}
	for at := range parts {
		wantCode(t, list(parts[:at]...))
		wantCode(t, list(parts[at+1:]...))
		wantCode(t, list(slices.Delete(slices.Clone(parts), at, at+1)...))
		wantCode(t, list(slices.Insert(slices.Clone(parts), at, "")...))
	}
	wantCode(t, list(append(slices.Clone(parts), "")...))
	wantCode(t, list(append(slices.Clone(parts), parts...)...))
	for size := range len(askBytes) {
		wantCode(t, askBytes[:size])
	}
	for _, s := range []string{"x", "\x00", "\x04", "\x84\x00" + askBytes[1:], askBytes[1:], askBytes + askBytes, "\x00" + askBytes, "\x04" + strings.Repeat("\x00", 4), strings.Repeat("\xff", 100), strings.Repeat("\x00", 1<<20)} {
		wantCode(t, s)
	}
}

// Promise 25.2: each error's number, and no other one, refuses an event.
func TestReject(t *testing.T) {
	for _, h := range []api.Hash{{}, {7}, {31: 1}, api.Hash([]byte(strings.Repeat("\xff", 32)))} {
		for code := api.Errno(1); code <= 15; code++ {
			want := list(string(h[:]), varint(int(code)))
			body, errno := Reject(h, code)
			if body != want || errno != api.OK {
				t.Errorf("Reject(.., %d) = %q, %d; want %q", code, body, errno, want)
			}
			if sum, got, errno := Rejected(want); sum != h || got != code || errno != api.OK {
				t.Errorf("Rejected(%q) = %v, %d, %d", want, sum, got, errno)
			}
			wantCheck(t, api.Message{Kind: api.MsgReject, Body: body}, api.OK)
		}
		for _, code := range []api.Errno{api.OK, -1, -15, math.MinInt, api.MaxErrno + 1, 127, 128, 256, 257, 1 << 32, 1<<32 + 1, api.MaxNum + 1, math.MaxInt} {
			if body, errno := Reject(h, code); body != "" || errno != api.ErrRange {
				t.Errorf("Reject(.., %d) = %q, %d; want ErrRange", code, body, errno)
			}
			wantNotRejected(t, list(string(h[:]), varint(int(code))))
		}
	}
}

// wantNotRejected fails a test unless Rejected refuses a body, as a message of its kind does.
func wantNotRejected(t *testing.T, body string) {
	t.Helper()
	if sum, code, errno := Rejected(body); sum != (api.Hash{}) || code != api.OK || errno != api.ErrCode {
		t.Errorf("Rejected(%.80q) = %v, %d, %d; want ErrCode", body, sum, code, errno)
	}
	if len(body) <= api.MaxText {
		wantCheck(t, api.Message{Kind: api.MsgReject, Body: body}, api.ErrCode)
	}
}

// Promise 25.2: bodies that refuse nothing.
func TestRejectedWrong(t *testing.T) {
	h := api.Hash{7, 31: 9}
	hash := string(h[:])
	body := list(hash, "\x0c")
	for _, wrong := range []string{"", hash[1:], hash + "\x00", hash + hash, hash[:16], strings.Repeat("\x00", 31), strings.Repeat("\x00", 33), strings.Repeat("x", 64), strings.Repeat("x", api.MaxText+1)} {
		wantNotRejected(t, list(wrong, "\x0c"))
	}
	for _, wrong := range []string{"", "\x80", "\x8c\x00", "\x0c\x00", "\x0c\x0c", "\x00", "\x10", "\x7f", "\x8c\x01", "12", strings.Repeat("\xff", 7), strings.Repeat("x", api.MaxText+1)} {
		wantNotRejected(t, list(hash, wrong))
	}
	for _, l := range [][]string{nil, {hash}, {"\x0c"}, {"\x0c", hash}, {hash, "\x0c", ""}, {"", hash, "\x0c"}, {hash, "\x0c", "\x0c"}, {hash, hash}, {"", ""}} {
		wantNotRejected(t, list(l...))
	}
	for size := range len(body) {
		wantNotRejected(t, body[:size])
	}
	for b := range 256 {
		wantNotRejected(t, body+string([]byte{byte(b)}))
	}
	for _, wrong := range []string{body[1:], body + body, "\x82\x00" + body[1:], hash + "\x0c", "x", strings.Repeat("\xff", 100), strings.Repeat("\x00", 1<<20)} {
		wantNotRejected(t, wrong)
	}
}

// Promise 25.2: each index, and no other number, is asked for.
func TestAsk(t *testing.T) {
	for index := 0; index <= api.MaxEvents; index++ {
		body, errno := Ask(index)
		if body != varint(index) || errno != api.OK {
			t.Fatalf("Ask(%d) = %q, %d; want %q", index, body, errno, varint(index))
		}
		if got, errno := Asked(body); got != index || errno != api.OK {
			t.Fatalf("Asked(%q) = %d, %d; want %d", body, got, errno, index)
		}
	}
	for _, index := range []int{-1, -300, math.MinInt, api.MaxEvents + 1, 1 << 16, 1 << 32, 1<<32 + 1, api.MaxNum, api.MaxNum + 1, math.MaxInt} {
		if body, errno := Ask(index); body != "" || errno != api.ErrRange {
			t.Errorf("Ask(%d) = %q, %d; want ErrRange", index, body, errno)
		}
		wantNotAsked(t, varint(index))
	}
	for _, body := range []string{"", "\x80", "\x80\x00", "\x81\x00", "\xac\x82\x00", "\x00\x00", "\xac\x02\x00", "\xac\x02\xac\x02", "300", strings.Repeat("\x80", 7), strings.Repeat("\xff", 100), strings.Repeat("\x00", 1<<20), "\x01\x05"} {
		wantNotAsked(t, body)
	}
}

// wantNotAsked fails a test unless Asked refuses a body.
func wantNotAsked(t *testing.T, body string) {
	t.Helper()
	if index, errno := Asked(body); index != 0 || errno != api.ErrCode {
		t.Errorf("Asked(%.80q) = %d, %d; want ErrCode", body, index, errno)
	}
}

// Promise 25.3: encodings that are one byte away from another.
func TestOneByteAway(t *testing.T) {
	all := bodies()
	for _, kind := range kinds() {
		s := wantBytes(api.Message{Kind: kind, From: 1, To: 2, Body: all[kind][0]})
		for at := range len(s) {
			for b := range 256 {
				backAndThere(t, s[:at]+string([]byte{byte(b)})+s[at+1:])
				backAndThere(t, s[:at]+string([]byte{byte(b)})+s[at:])
			}
			wantCode(t, s[:at])
			backAndThere(t, s[:at]+s[at+1:])
		}
	}
}

// Promise 25.3: messages of random parts, of which many are valid; no two of them have one encoding.
func TestThereAndBack(t *testing.T) {
	source := rand.New(rand.NewSource(1))
	all := bodies()
	seen := map[string]api.Message{}
	for range 20000 {
		m := someMessage(source, all)
		s, errno := Bytes(m)
		if checked := Check(m); errno != checked {
			t.Fatalf("Bytes(%s) = %d, and Check = %d", told(m), errno, checked)
		}
		if errno != api.OK {
			wantCode(t, wantBytes(m))
			continue
		}
		if got, errno := Parse(s); got != m || errno != api.OK {
			t.Fatalf("Parse(%.80q) = %s, %d; want %s", s, told(got), errno, told(m))
		}
		if other, is := seen[s]; is && other != m {
			t.Fatalf("%s and %s have one encoding", told(m), told(other))
		}
		seen[s] = m
		wantCode(t, s+"\x00")
	}
	if len(seen) < 2000 {
		t.Errorf("only %d messages were valid", len(seen))
	}
}

// someMessage is a message of parts that are mostly right.
func someMessage(source *rand.Rand, all map[api.MsgKind][]string) api.Message {
	kind := api.MsgKind(source.Intn(9))
	of := kind
	if kind == api.MsgNone || kind == api.MsgCount || source.Intn(8) == 0 {
		of = kinds()[source.Intn(7)]
	}
	return api.Message{
		Kind: kind,
		From: source.Intn(api.MaxServer+4) - 1,
		To:   source.Intn(api.MaxServer+4) - 1,
		Body: all[of][source.Intn(len(all[of]))],
	}
}

// Promise 25.3.
func FuzzBackAndThere(f *testing.F) {
	for _, m := range validMessages() {
		f.Add(wantBytes(m))
	}
	f.Fuzz(func(t *testing.T, s string) { backAndThere(t, s) })
}

// backAndThere fails a test if Parse takes a string that is not the encoding of a valid message, its answer.
func backAndThere(t *testing.T, s string) {
	t.Helper()
	if m, errno := Parse(s); errno != api.OK {
		wantCode(t, s)
	} else if again, errno := Bytes(m); Check(m) != api.OK || again != s || errno != api.OK || again != wantBytes(m) {
		t.Fatalf("Parse(%.80q) = %s, whose encoding is %.80q, %d", s, told(m), again, errno)
	}
}

// Promises 25.1 and 25.2, by the rule that an answer is new memory.
func TestNewMemory(t *testing.T) {
	m := with(ask, func(m *api.Message) { m.Body = strings.Clone(m.Body) })
	s, _ := Bytes(m)
	apart(t, "Bytes", m.Body, s)
	got, _ := Parse(s)
	apart(t, "Parse", s, got.Body)
	h := api.Hash{7}
	body, _ := Reject(h, api.ErrAuth)
	sum, _, _ := Rejected(body)
	h[0], sum[1] = 8, 9
	if again, _, _ := Rejected(body); again != (api.Hash{7}) {
		t.Errorf("Rejected = %v after its answers were changed", again)
	}
}

// apart fails a test if a result lies inside an argument's memory.
func apart(t *testing.T, call, argument, result string) {
	t.Helper()
	from := uintptr(unsafe.Pointer(unsafe.StringData(argument)))
	at := uintptr(unsafe.Pointer(unsafe.StringData(result)))
	if from <= at && at < from+uintptr(len(argument)) {
		t.Errorf("%s: the result lies in the argument's memory", call)
	}
}
