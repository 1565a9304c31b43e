package head

import (
	"encoding/binary"
	"fmt"
	"math"
	"math/rand"
	"slices"
	"strings"
	"testing"
	"unsafe"

	"palaver/api"
	"palaver/entry"
	"palaver/key"
	"palaver/sha"
)

// zeros are the bytes of a zero hash.
var zeros = strings.Repeat("\x00", 32)

// fifth is the chapter's entry, hall its head without a signature, and hallText the head's signed text, written out by hand.
var (
	fifth    = api.Entry{Room: "!hall:0", Epoch: 1, Index: 5, Event: "x"}
	hall     = api.Head{Room: "!hall:0", Epoch: 1, Index: 5, Sum: sha.Sum(fifthText)}
	hallText = "\x05" + "\x04head" + "\x07!hall:0" + "\x01\x01" + "\x01\x05" + "\x20" + string(hall.Sum[:])
)

// fifthText is the signed text of the chapter's entry, written out by hand.
var fifthText = "\x06" + "\x05entry" + "\x07!hall:0" + "\x01\x01" + "\x01\x05" + "\x20" + zeros + "\x01x"

// with is a head that was changed.
func with(h api.Head, change func(h *api.Head)) api.Head {
	change(&h)
	return h
}

// list is the encoding of a list of strings, by the library's numbers.
func list(l ...string) string {
	b := binary.AppendUvarint(nil, uint64(len(l)))
	for _, s := range l {
		b = append(binary.AppendUvarint(b, uint64(len(s))), s...)
	}
	return string(b)
}

// varint is the encoding of a number, by the library.
func varint(n int) string {
	return string(binary.AppendUvarint(nil, uint64(n)))
}

// wantText is a valid head's signed text, apart from the program's.
func wantText(h api.Head) string {
	return list("head", h.Room, varint(h.Epoch), varint(h.Index), string(h.Sum[:]))
}

// validHeads are valid heads, with edges of what may be.
func validHeads() []api.Head {
	longest := strings.Repeat("y", api.MaxText)
	ones := api.Hash(slices.Repeat([]byte{0xff}, 32))
	return []api.Head{
		{Room: "!hall:0"},
		hall,
		with(hall, func(h *api.Head) { h.Sig = "y" }),
		{Room: "!abcdefghijklmnop:63", Epoch: api.MaxEvents, Index: api.MaxEvents, Sum: ones, Sig: longest},
		{Room: "!-_9:10", Epoch: api.MaxEvents - 1, Sum: sha.Sum(""), Sig: longest[1:]},
		{Room: "!hall:0", Index: api.MaxEvents, Sum: api.Hash{31: 1}, Sig: "\x00"},
		{Room: "!hall:0", Epoch: 127, Index: 128, Sum: api.Hash{1}, Sig: longest[:127]},
		{Room: "!hall:0", Epoch: 128, Index: 127, Sig: longest[:128]},
	}
}

// wrongHeads are heads that are not valid, each by one thing.
func wrongHeads() []api.Head {
	wrong := []api.Head{{}}
	for _, room := range []string{"", "!", "hall", "hall:0", "@hall:0", "@ann:0", "!hall", "!hall:", "!hall:00", "!hall:64", "!hall:-1", "!Hall:0", "!hall:0 ", "!abcdefghijklmnopq:0", "!hall:0!hall:0", "!h\x00:0"} {
		wrong = append(wrong, with(hall, func(h *api.Head) { h.Room = room }))
	}
	for _, n := range []int{-1, -5, math.MinInt, api.MaxEvents + 1, 1 << 32, api.MaxNum, api.MaxNum + 1, math.MaxInt} {
		wrong = append(wrong, with(hall, func(h *api.Head) { h.Epoch = n }), with(hall, func(h *api.Head) { h.Index = n }))
	}
	for _, size := range []int{api.MaxText + 1, 2 * api.MaxText, 1 << 20} {
		wrong = append(wrong, with(hall, func(h *api.Head) { h.Sig = strings.Repeat("y", size) }))
	}
	return wrong
}

// told is a head with no more than the beginnings of its texts.
func told(h api.Head) string {
	return fmt.Sprintf("{%.40q %d %d %x %.10q (%d bytes)}", h.Room, h.Epoch, h.Index, h.Sum[:4], h.Sig, len(h.Sig))
}

// wantNoText fails a test unless Read refuses text, and Parse what would be the encoding of its head.
func wantNoText(t *testing.T, text string) {
	t.Helper()
	if h, errno := Read(text); h != (api.Head{}) || errno != api.ErrCode {
		t.Errorf("Read(%.80q) = %s, %d; want ErrCode", text, told(h), errno)
	}
	wantNoBytes(t, list(text, ""))
	wantNoBytes(t, list(text, "y"))
}

// wantNoBytes fails a test unless Parse refuses s.
func wantNoBytes(t *testing.T, s string) {
	t.Helper()
	if h, errno := Parse(s); h != (api.Head{}) || errno != api.ErrCode {
		t.Errorf("Parse(%.80q) = %s, %d; want ErrCode", s, told(h), errno)
	}
}

// wantNothing fails a test unless neither Parse nor Read takes s.
func wantNothing(t *testing.T, s string) {
	t.Helper()
	wantNoText(t, s)
	wantNoBytes(t, s)
}

// ring is a ring of a key.
func ring(t *testing.T, seed string, high int) *key.Ring {
	t.Helper()
	r, errno := key.Make(api.Key{Seed: seed, High: high})
	if errno != api.OK {
		t.Fatalf("Make = %d", errno)
	}
	return r
}

// signed is a head with a ring's signature.
func signed(t *testing.T, r *key.Ring, h api.Head) api.Head {
	t.Helper()
	h, errno := Sign(r, h)
	if errno != api.OK {
		t.Fatalf("Sign(%s) = %d", told(h), errno)
	}
	return h
}

// wantVerify fails a test unless Verify answers this.
func wantVerify(t *testing.T, b []api.Grant, server int, h api.Head, want api.Errno) {
	t.Helper()
	if errno := Verify(b, server, h); errno != want {
		t.Errorf("Verify(.., %d, %s) = %d; want %d", server, told(h), errno, want)
	}
}

// Promises 21.1 and 21.2: the chapter's examples.
func TestExamples(t *testing.T) {
	if errno := Check(api.Head{}); errno != api.ErrForm {
		t.Errorf("Check of the zero head = %d", errno)
	}
	if h, errno := Of(fifth); h != hall || errno != api.OK {
		t.Errorf("Of = %s, %d; want %s", told(h), errno, told(hall))
	}
	if text, errno := Text(hall); text != hallText || errno != api.OK {
		t.Errorf("Text = %q, %d; want %q", text, errno, hallText)
	}
	if h, errno := Read(hallText); h != hall || errno != api.OK {
		t.Errorf("Read = %s, %d; want %s", told(h), errno, told(hall))
	}
	r := ring(t, "s", 1)
	h := signed(t, r, hall)
	s, errno := Bytes(h)
	if s != list(hallText, h.Sig) || errno != api.OK {
		t.Errorf("Bytes = %.80q, %d", s, errno)
	}
	wantNoText(t, s)
	if got, errno := Parse(s); got != h || got.Index != 5 || sha.Hex(got.Sum) != "f9c876a0dc1d62509c83845d432249c1bea965775a345bedf14853b663e8e926" || errno != api.OK {
		t.Errorf("Parse = %s, %d; want %s", told(got), errno, told(h))
	}
	for b := range 256 {
		wantNoBytes(t, s+string([]byte{byte(b)}))
		wantNoText(t, hallText+string([]byte{byte(b)}))
	}
	b := []api.Grant{{Server: 2, To: 9, High: 1, Root: r.Root()}}
	wantVerify(t, b, 2, h, api.OK)
	wantVerify(t, b, 2, with(h, func(h *api.Head) { h.Epoch = 2 }), api.ErrSign)
}

// Promise 21.1: the head of an entry, whatever is signed, and whichever event it has.
func TestOf(t *testing.T) {
	longest := strings.Repeat("x", api.MaxText)
	for _, e := range []api.Entry{
		{Room: "!hall:0"},
		fifth,
		{Room: "!abcdefghijklmnop:63", Epoch: api.MaxEvents, Index: api.MaxEvents, Prev: sha.Sum("x"), Event: longest, Sig: longest},
		{Room: "!-_9:10", Epoch: 3, Index: 1, Prev: api.Hash{31: 1}, Event: "\x00", Sig: "y"},
	} {
		sum, _ := entry.Sum(e)
		want := api.Head{Room: e.Room, Epoch: e.Epoch, Index: e.Index, Sum: sum}
		if h, errno := Of(e); h != want || errno != api.OK {
			t.Errorf("Of = %s, %d; want %s", told(h), errno, told(want))
		}
	}
	for _, e := range []api.Entry{
		{},
		{Room: "hall", Index: 5},
		{Room: "@ann:0", Index: 5},
		{Room: "!hall:0", Epoch: -1},
		{Room: "!hall:0", Epoch: api.MaxEvents + 1},
		{Room: "!hall:0", Index: -1},
		{Room: "!hall:0", Index: api.MaxEvents + 1},
		{Room: "!hall:0", Event: longest + "x"},
		{Room: "!hall:0", Sig: longest + "x"},
	} {
		if h, errno := Of(e); h != (api.Head{}) || errno != api.ErrForm {
			t.Errorf("Of = %s, %d; want ErrForm", told(h), errno)
		}
	}
}

// Promise 21.1.
func TestValid(t *testing.T) {
	for _, h := range validHeads() {
		if errno := Check(h); errno != api.OK {
			t.Errorf("Check(%s) = %d; want OK", told(h), errno)
		}
		text := wantText(h)
		if got, errno := Text(h); got != text || errno != api.OK {
			t.Errorf("Text(%s) = %q, %d; want %q", told(h), got, errno, text)
		}
		bare := with(h, func(h *api.Head) { h.Sig = "" })
		if got, errno := Read(text); got != bare || errno != api.OK {
			t.Errorf("Read(%q) = %s, %d; want %s", text, told(got), errno, told(bare))
		}
		if s, errno := Bytes(h); s != list(text, h.Sig) || errno != api.OK {
			t.Errorf("Bytes(%s) = %.80q, %d", told(h), s, errno)
		}
		if got, errno := Parse(list(text, h.Sig)); got != h || errno != api.OK {
			t.Errorf("Parse of the encoding = %s, %d; want %s", told(got), errno, told(h))
		}
	}
}

// Promise 21.1.
func TestWrong(t *testing.T) {
	for _, h := range wrongHeads() {
		if errno := Check(h); errno != api.ErrForm {
			t.Errorf("Check(%s) = %d; want ErrForm", told(h), errno)
		}
		if text, errno := Text(h); text != "" || errno != api.ErrForm {
			t.Errorf("Text(%s) = %.80q, %d; want ErrForm", told(h), text, errno)
		}
		if s, errno := Bytes(h); s != "" || errno != api.ErrForm {
			t.Errorf("Bytes(%s) = %.80q, %d; want ErrForm", told(h), s, errno)
		}
		// What would be the encoding of a head that is not valid is none.
		wantNoBytes(t, list(wantText(h), h.Sig))
		if len(h.Sig) <= api.MaxText {
			wantNoText(t, wantText(h))
		}
	}
}

// Promise 21.1: texts that are no head's signed text, for each of its parts.
func TestReadWrong(t *testing.T) {
	right := []string{"head", "!hall:0", "\x01", "\x05", string(hall.Sum[:])}
	if list(right...) != hallText {
		t.Fatal("the parts are not those of the example")
	}
	change := func(at int, part string) {
		l := slices.Clone(right)
		l[at] = part
		wantNothing(t, list(l...))
	}
	for _, word := range []string{"", "entry", "offer", "accept", "cert", "hea", "heads", "head ", "Head", "\x04head", "head\x00"} {
		change(0, word)
	}
	for _, room := range []string{"", "hall", "@hall:0", "!hall", "!hall:64", "!hall:00"} {
		change(1, room)
	}
	for _, number := range []string{
		"", "\x80", "\x81\x00", "\x85\x00", "\x05\x00", "\x05\x05", "\x05\xff",
		varint(api.MaxEvents + 1), varint(1<<32 + 5), varint(api.MaxNum), varint(api.MaxNum + 1), varint(-1), strings.Repeat("\x80", 7),
	} {
		change(2, number)
		change(3, number)
	}
	for _, sum := range []string{"", right[4][1:], right[4] + "\x00", zeros[:16], zeros + zeros, sha.Hex(hall.Sum)} {
		change(4, sum)
	}
}

// Promise 21.1: lists of other lengths or in another order, and strings that are no lists.
func TestNoList(t *testing.T) {
	parts := []string{"head", "!hall:0", "\x01", "\x05", string(hall.Sum[:])}
	for at := range len(parts) {
		wantNothing(t, list(parts[:at]...))
		wantNothing(t, list(parts[at+1:]...))
		wantNothing(t, list(slices.Delete(slices.Clone(parts), at, at+1)...))
	}
	wantNothing(t, list(append(slices.Clone(parts), "")...))
	wantNothing(t, list(append([]string{""}, parts...)...))
	wantNothing(t, list("!hall:0", "head", "\x01", "\x05", zeros))
	wantNothing(t, list("head", "!hall:0", "\x01", zeros, "\x05"))
	for _, s := range []string{"", "\x00", "\x05", "\x80", "\x02", "\x85\x00" + hallText[1:], "x", strings.Repeat("\xff", 100), "\x05" + strings.Repeat("\x00", 5), hallText + hallText, "\x00" + hallText, strings.Repeat("\x00", 1<<20)} {
		wantNothing(t, s)
	}
	for size := range len(hallText) {
		wantNothing(t, hallText[:size])
	}
	// A signed text is no encoding, and an encoding no signed text.
	wantNoBytes(t, hallText)
	wantNoText(t, list(hallText, "y"))
	for _, l := range [][]string{{hallText}, {hallText, "y", "z"}, {hallText, "y", ""}, {"y", hallText}, {"", hallText}, {hallText + "\x00", "y"}, {hallText[1:], "y"}} {
		wantNoBytes(t, list(l...))
	}
	wantNoBytes(t, list(hallText, strings.Repeat("y", api.MaxText+1)))
}

// Promise 21.2: the signature is the ring's of the signed text, and each one counts.
func TestSign(t *testing.T) {
	r, same := ring(t, "s", 2), ring(t, "s", 2)
	for i, h := range validHeads()[:4] {
		want, errno := same.Sign(wantText(h))
		if errno != api.OK {
			t.Fatalf("the ring's Sign = %d", errno)
		}
		got, errno := Sign(r, h)
		if got != with(h, func(h *api.Head) { h.Sig = want }) || errno != api.OK {
			t.Errorf("Sign(%s) = %s, %d", told(h), told(got), errno)
		}
		if next := r.Key().Next; next != i+1 {
			t.Errorf("after %d signatures, Next is %d", i+1, next)
		}
	}
	for _, h := range validHeads() {
		if got, errno := Sign(r, h); got != h || errno != api.ErrOver {
			t.Errorf("Sign(%s) by a used up ring = %s, %d; want ErrOver", told(h), told(got), errno)
		}
	}
}

// Promise 21.2: what is not valid is not signed, and costs no signature; it is told ahead of the ring's error.
func TestSignWrong(t *testing.T) {
	fresh, over := ring(t, "s", 1), ring(t, "s", 0)
	signed(t, over, hall)
	for _, h := range wrongHeads() {
		for _, r := range []*key.Ring{fresh, over, {}, nil} {
			if got, errno := Sign(r, h); got != h || errno != api.ErrForm {
				t.Errorf("Sign(%s) = %s, %d; want ErrForm", told(h), told(got), errno)
			}
		}
	}
	if next := fresh.Key().Next; next != 0 {
		t.Errorf("Next is %d, though nothing was signed", next)
	}
	h := with(hall, func(h *api.Head) { h.Sig = "y" })
	for _, r := range []*key.Ring{{}, nil} {
		if got, errno := Sign(r, h); got != h || errno != api.ErrForm {
			t.Errorf("Sign by a ring that Make did not make = %s, %d; want ErrForm", told(got), errno)
		}
	}
}

// Promise 21.2: the time of a head is its index.
func TestVerifyTime(t *testing.T) {
	old, later, other := ring(t, "old", 4), ring(t, "later", 3), ring(t, "other", 3)
	b := []api.Grant{
		{Server: 1, From: 0, To: 99, High: 3, Root: other.Root()},
		{Server: 2, From: 3, To: 9, High: 4, Root: old.Root()},
		{Server: 2, From: 10, To: 10, High: 3, Root: later.Root()},
	}
	for index, want := range map[int]api.Errno{0: api.ErrNone, 2: api.ErrNone, 3: api.OK, 9: api.OK, 10: api.ErrForm, 11: api.ErrNone, api.MaxEvents: api.ErrNone} {
		h := signed(t, old, with(hall, func(h *api.Head) { h.Index = index }))
		wantVerify(t, b, 2, h, want)
		wantVerify(t, b, 3, h, api.ErrNone)
		wantVerify(t, b, -1, h, api.ErrNone)
		wantVerify(t, nil, 2, h, api.ErrNone)
		wantVerify(t, slices.Concat(b, b), 2, h, api.ErrForm)
	}
	h := signed(t, later, with(hall, func(h *api.Head) { h.Index = 10 }))
	wantVerify(t, b, 2, h, api.OK)
	wantVerify(t, b, 1, h, api.ErrSign)
	wantVerify(t, b, 2, with(h, func(h *api.Head) { h.Epoch = 10 }), api.ErrSign)
	// The epoch is not the time.
	h = signed(t, old, with(hall, func(h *api.Head) { h.Epoch = 20 }))
	wantVerify(t, b, 2, h, api.OK)
}

// Promise 21.2: whatever is otherwise than it was signed is found.
func TestVerifyChanged(t *testing.T) {
	r := ring(t, "s", 1)
	b := []api.Grant{{Server: 2, To: api.MaxEvents, High: 1, Root: r.Root()}}
	h := signed(t, r, hall)
	for at := range 32 {
		wantVerify(t, b, 2, with(h, func(h *api.Head) { h.Sum[at] ^= 1 }), api.ErrSign)
	}
	for _, change := range []func(h *api.Head){
		func(h *api.Head) { h.Room = "!hall:1" },
		func(h *api.Head) { h.Epoch = 0 },
		func(h *api.Head) { h.Epoch, h.Index = 5, 1 },
		func(h *api.Head) { h.Index = 4 },
		func(h *api.Head) { h.Index = 133 },
		func(h *api.Head) { h.Sig = "\x01" + h.Sig[1:] },
		func(h *api.Head) { h.Sig = h.Sig[:len(h.Sig)-1] + "\x00" },
		func(h *api.Head) { h.Sig = h.Sig[:500] + string([]byte{h.Sig[500] ^ 1}) + h.Sig[501:] },
	} {
		wantVerify(t, b, 2, with(h, change), api.ErrSign)
	}
	for _, sig := range []string{"", "x", h.Sig[1:], h.Sig + "\x00", "\x02" + h.Sig[1:], strings.Repeat("y", api.MaxText)} {
		wantVerify(t, b, 2, with(h, func(h *api.Head) { h.Sig = sig }), api.ErrForm)
	}
	// The entry's signature is not that of its head.
	e, _ := entry.Sign(r, fifth)
	wantVerify(t, b, 2, with(h, func(h *api.Head) { h.Sig = e.Sig }), api.ErrSign)
	// What is not valid is told ahead of all that the book says.
	for _, h := range wrongHeads() {
		wantVerify(t, b, 2, h, api.ErrForm)
		wantVerify(t, nil, 2, h, api.ErrForm)
	}
}

// Promise 21.3: strings that are one byte away from an encoding or a signed text.
func TestOneByteAway(t *testing.T) {
	for _, h := range validHeads()[:3] {
		s := list(wantText(h), h.Sig)
		for at := range len(s) {
			for b := range 256 {
				backAndThere(t, s[:at]+string([]byte{byte(b)})+s[at+1:])
				backAndThere(t, s[:at]+string([]byte{byte(b)})+s[at:])
			}
			wantNothing(t, s[:at])
			backAndThere(t, s[:at]+s[at+1:])
		}
	}
}

// Promise 21.3: heads of random parts, of which many are valid; no two of them have one encoding.
func TestThereAndBack(t *testing.T) {
	source := rand.New(rand.NewSource(1))
	seen := map[string]api.Head{}
	for range 20000 {
		h := someHead(source)
		s, errno := Bytes(h)
		if checked := Check(h); errno != checked {
			t.Fatalf("Bytes(%s) = %d, and Check = %d", told(h), errno, checked)
		}
		if errno != api.OK {
			continue
		}
		if got, errno := Parse(s); got != h || errno != api.OK {
			t.Fatalf("Parse(%.80q) = %s, %d; want %s", s, told(got), errno, told(h))
		}
		if other, is := seen[s]; is && other != h {
			t.Fatalf("%s and %s have one encoding", told(h), told(other))
		}
		seen[s] = h
		wantNoBytes(t, s+"\x00")
	}
	if len(seen) < 2000 {
		t.Errorf("only %d heads were valid", len(seen))
	}
}

// someHead is a head of parts that are mostly right.
func someHead(source *rand.Rand) api.Head {
	rooms := []string{"!hall:0", "!hall:63", "!-_:1", "!abcdefghijklmnop:10", "!h:4", "@hall:0"}
	sig := make([]byte, source.Intn([]int{9, 1500, api.MaxText + 90}[source.Intn(3)]))
	source.Read(sig)
	return api.Head{
		Room:  rooms[source.Intn(len(rooms))],
		Epoch: source.Intn(api.MaxEvents+40) - 20,
		Index: source.Intn(api.MaxEvents+40) - 20,
		Sum:   sha.Sum(varint(source.Int())),
		Sig:   string(sig),
	}
}

// Promise 21.4: what is signed for a head was not signed for an entry, nor the other way round.
func TestNoEntry(t *testing.T) {
	for _, h := range validHeads() {
		text, _ := Text(h)
		if e, errno := entry.Read(text); e != (api.Entry{}) || errno != api.ErrCode {
			t.Errorf("the signed text of %s is that of an entry: %v, %d", told(h), e, errno)
		}
		// An entry may have whatever else a head has, and the head as its event.
		for _, event := range []string{"", "head", text} {
			e := api.Entry{Room: h.Room, Epoch: h.Epoch, Index: h.Index, Prev: h.Sum, Event: event}
			theirs, errno := entry.Text(e)
			if errno != api.OK || theirs == text {
				t.Errorf("the signed text of %s is that of an entry, %d", told(h), errno)
			}
			wantNothing(t, theirs)
			bytes, _ := entry.Bytes(e)
			wantNothing(t, bytes)
		}
	}
}

// Promise 21.3.
func FuzzBackAndThere(f *testing.F) {
	for _, h := range validHeads() {
		f.Add(wantText(h))
		f.Add(list(wantText(h), h.Sig))
	}
	f.Fuzz(func(t *testing.T, s string) { backAndThere(t, s) })
}

// backAndThere fails a test if Parse or Read takes a string that is not the encoding or the signed text of a valid head, its answer.
func backAndThere(t *testing.T, s string) {
	t.Helper()
	if h, errno := Parse(s); errno != api.OK {
		wantNoBytes(t, s)
	} else if again, errno := Bytes(h); Check(h) != api.OK || again != s || errno != api.OK || again != list(wantText(h), h.Sig) {
		t.Fatalf("Parse(%.80q) = %s, whose encoding is %.80q, %d", s, told(h), again, errno)
	}
	if h, errno := Read(s); errno != api.OK {
		wantNoText(t, s)
	} else if again, errno := Text(h); Check(h) != api.OK || again != s || errno != api.OK || again != wantText(h) || h.Sig != "" {
		t.Fatalf("Read(%.80q) = %s, whose signed text is %.80q, %d", s, told(h), again, errno)
	}
}

// Promises 21.1 and 21.2, by the rule that an answer is new memory.
func TestNewMemory(t *testing.T) {
	e := api.Entry{Room: strings.Clone("!hall:0"), Epoch: 1, Index: 5, Event: "x"}
	of, _ := Of(e)
	apart(t, "Of", e.Room, of.Room)
	h := api.Head{Room: strings.Clone("!hall:0"), Epoch: 1, Index: 5, Sig: strings.Clone("a signature")}
	text, _ := Text(h)
	s, _ := Bytes(h)
	got, _ := Parse(s)
	read, _ := Read(text)
	r := ring(t, "s", 0)
	done := signed(t, r, h)
	over, _ := Sign(r, h)
	for _, part := range []string{h.Room, h.Sig} {
		apart(t, "Text", part, text)
		apart(t, "Bytes", part, s)
		for _, result := range []api.Head{done, over} {
			apart(t, "Sign", part, result.Room)
			apart(t, "Sign", part, result.Sig)
		}
	}
	apart(t, "Parse", s, got.Room)
	apart(t, "Parse", s, got.Sig)
	apart(t, "Read", text, read.Room)
}

// apart fails a test if a result lies inside an argument's memory.
func apart(t *testing.T, call, argument, result string) {
	t.Helper()
	from := uintptr(unsafe.Pointer(unsafe.StringData(argument)))
	at := uintptr(unsafe.Pointer(unsafe.StringData(result)))
	if from <= at && at < from+uintptr(len(argument)) {
		t.Errorf("%s: the result lies in the argument's memory", call)
	}
}
