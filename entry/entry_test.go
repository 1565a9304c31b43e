package entry

import (
	"crypto/sha256"
	"encoding/binary"
	"fmt"
	"math"
	"math/rand"
	"slices"
	"strings"
	"testing"
	"unsafe"

	"palaver/api"
	"palaver/key"
	"palaver/sha"
)

// zeros are the bytes of a zero hash.
var zeros = strings.Repeat("\x00", 32)

// hall is the chapter's entry, without a signature, and hallText its signed text, written out by hand.
var (
	hall     = api.Entry{Room: "!hall:0", Epoch: 1, Index: 5, Event: "x"}
	hallText = "\x06" + "\x05entry" + "\x07!hall:0" + "\x01\x01" + "\x01\x05" + "\x20" + zeros + "\x01x"
)

// with is an entry that was changed.
func with(e api.Entry, change func(e *api.Entry)) api.Entry {
	change(&e)
	return e
}

// list is the encoding of a list of strings, by the library's numbers.
func list(l ...string) string {
	b := binary.AppendUvarint(nil, uint64(len(l)))
	for _, s := range l {
		b = append(binary.AppendUvarint(b, uint64(len(s))), s...)
	}
	return string(b)
}

// varint is the encoding of a number, by the library.
func varint(n int) string {
	return string(binary.AppendUvarint(nil, uint64(n)))
}

// wantText is a valid entry's signed text, apart from the program's.
func wantText(e api.Entry) string {
	return list("entry", e.Room, varint(e.Epoch), varint(e.Index), string(e.Prev[:]), e.Event)
}

// validEntries are valid entries, with edges of what may be.
func validEntries() []api.Entry {
	longest := strings.Repeat("x", api.MaxText)
	ones := api.Hash(slices.Repeat([]byte{0xff}, 32))
	return []api.Entry{
		{Room: "!hall:0"},
		hall,
		with(hall, func(e *api.Entry) { e.Sig = "y" }),
		{Room: "!abcdefghijklmnop:63", Epoch: api.MaxEvents, Index: api.MaxEvents, Prev: ones, Event: "\x00\xff", Sig: longest},
		{Room: "!-_9:10", Epoch: api.MaxEvents - 1, Index: 0, Prev: sha.Sum(""), Event: "\xc3\xa4", Sig: longest[1:]},
		{Room: "!hall:0", Epoch: 0, Index: api.MaxEvents, Prev: api.Hash{31: 1}, Sig: "\x00"},
		{Room: "!hall:0", Epoch: 127, Index: 128, Prev: api.Hash{1}, Event: longest[:127]},
		{Room: "!hall:0", Epoch: 128, Index: 127, Event: longest[:128], Sig: longest[:128]},
		{Room: "!hall:0", Event: longest},
		{Room: "!hall:0", Event: longest[1:], Sig: longest},
	}
}

// wrongEntries are entries that are not valid, each by one thing.
func wrongEntries() []api.Entry {
	wrong := []api.Entry{{}}
	for _, room := range []string{"", "!", "hall", "hall:0", "@hall:0", "@ann:0", "!hall", "!hall:", "!hall:00", "!hall:64", "!hall:-1", "!Hall:0", "!hall:0 ", "!abcdefghijklmnopq:0", "!hall:0!hall:0", "!h\x00:0"} {
		wrong = append(wrong, with(hall, func(e *api.Entry) { e.Room = room }))
	}
	for _, n := range []int{-1, -5, math.MinInt, api.MaxEvents + 1, 1 << 32, api.MaxNum, api.MaxNum + 1, math.MaxInt} {
		wrong = append(wrong, with(hall, func(e *api.Entry) { e.Epoch = n }), with(hall, func(e *api.Entry) { e.Index = n }))
	}
	for _, size := range []int{api.MaxText + 1, 2 * api.MaxText, 1 << 20} {
		long := strings.Repeat("x", size)
		wrong = append(wrong, with(hall, func(e *api.Entry) { e.Event = long }), with(hall, func(e *api.Entry) { e.Sig = long }))
	}
	return wrong
}

// told is an entry with no more than the beginnings of its texts.
func told(e api.Entry) string {
	return fmt.Sprintf("{%.40q %d %d %x %.40q (%d bytes) %.10q (%d bytes)}", e.Room, e.Epoch, e.Index, e.Prev[:4], e.Event, len(e.Event), e.Sig, len(e.Sig))
}

// wantCode fails a test unless neither Parse nor Read takes s.
func wantCode(t *testing.T, s string) {
	t.Helper()
	wantNoText(t, s)
	wantNoBytes(t, s)
}

// wantNoText fails a test unless Read refuses text, and Parse what would be the encoding of its entry.
func wantNoText(t *testing.T, text string) {
	t.Helper()
	if e, errno := Read(text); e != (api.Entry{}) || errno != api.ErrCode {
		t.Errorf("Read(%.80q) = %s, %d; want ErrCode", text, told(e), errno)
	}
	wantNoBytes(t, list(text, ""))
	wantNoBytes(t, list(text, "y"))
}

// wantNoBytes fails a test unless Parse refuses s.
func wantNoBytes(t *testing.T, s string) {
	t.Helper()
	if e, errno := Parse(s); e != (api.Entry{}) || errno != api.ErrCode {
		t.Errorf("Parse(%.80q) = %s, %d; want ErrCode", s, told(e), errno)
	}
}

// ring is a ring of a key.
func ring(t *testing.T, seed string, high int) *key.Ring {
	t.Helper()
	r, errno := key.Make(api.Key{Seed: seed, High: high})
	if errno != api.OK {
		t.Fatalf("Make = %d", errno)
	}
	return r
}

// signed is an entry with a ring's signature.
func signed(t *testing.T, r *key.Ring, e api.Entry) api.Entry {
	t.Helper()
	e, errno := Sign(r, e)
	if errno != api.OK {
		t.Fatalf("Sign(%s) = %d", told(e), errno)
	}
	return e
}

// wantVerify fails a test unless Verify answers this.
func wantVerify(t *testing.T, b []api.Grant, server int, e api.Entry, want api.Errno) {
	t.Helper()
	if errno := Verify(b, server, e); errno != want {
		t.Errorf("Verify(.., %d, %s) = %d; want %d", server, told(e), errno, want)
	}
}

// Promises 19.1 and 19.2: the chapter's examples.
func TestExamples(t *testing.T) {
	if errno := Check(api.Entry{}); errno != api.ErrForm {
		t.Errorf("Check of the zero entry = %d", errno)
	}
	if text, errno := Text(hall); text != hallText || errno != api.OK {
		t.Errorf("Text = %q, %d; want %q", text, errno, hallText)
	}
	sum, errno := Sum(hall)
	if sha.Hex(sum) != "f9c876a0dc1d62509c83845d432249c1bea965775a345bedf14853b663e8e926" || errno != api.OK {
		t.Errorf("Sum = %s, %d", sha.Hex(sum), errno)
	}
	r := ring(t, "s", 1)
	e := signed(t, r, hall)
	if got, errno := Read(hallText); got != hall || errno != api.OK {
		t.Errorf("Read = %s, %d; want %s", told(got), errno, told(hall))
	}
	s, errno := Bytes(e)
	if s != list(hallText, e.Sig) || errno != api.OK {
		t.Errorf("Bytes = %.80q, %d", s, errno)
	}
	if got, errno := Parse(s); got != e || errno != api.OK {
		t.Errorf("Parse = %s, %d; want %s", told(got), errno, told(e))
	}
	for b := range 256 {
		wantNoBytes(t, s+string([]byte{byte(b)}))
		wantNoText(t, hallText+string([]byte{byte(b)}))
	}
	b := []api.Grant{{Server: 2, To: 9, High: 1, Root: r.Root()}}
	wantVerify(t, b, 2, e, api.OK)
	wantVerify(t, b, 2, with(e, func(e *api.Entry) { e.Index = 6 }), api.ErrSign)
	wantVerify(t, b, 1, e, api.ErrNone)
}

// Promise 19.1.
func TestValid(t *testing.T) {
	for _, e := range validEntries() {
		if errno := Check(e); errno != api.OK {
			t.Errorf("Check(%s) = %d; want OK", told(e), errno)
		}
		text := wantText(e)
		if got, errno := Text(e); got != text || errno != api.OK {
			t.Errorf("Text(%s) = %.80q, %d; want %.80q", told(e), got, errno, text)
		}
		if sum, errno := Sum(e); sum != sha256.Sum256([]byte(text)) || errno != api.OK {
			t.Errorf("Sum(%s) = %x, %d", told(e), sum, errno)
		}
		bare := with(e, func(e *api.Entry) { e.Sig = "" })
		if got, errno := Read(text); got != bare || errno != api.OK {
			t.Errorf("Read(%.80q) = %s, %d; want %s", text, told(got), errno, told(bare))
		}
		s, errno := Bytes(e)
		if len(text) > api.MaxText {
			if s != "" || errno != api.ErrLong {
				t.Errorf("Bytes(%s) = %.80q, %d; want ErrLong", told(e), s, errno)
			}
			wantNoBytes(t, list(text, e.Sig))
			continue
		}
		if s != list(text, e.Sig) || errno != api.OK {
			t.Errorf("Bytes(%s) = %.80q, %d", told(e), s, errno)
		}
		if got, errno := Parse(list(text, e.Sig)); got != e || errno != api.OK {
			t.Errorf("Parse(%.80q) = %s, %d; want %s", s, told(got), errno, told(e))
		}
	}
}

// Promise 19.1.
func TestWrong(t *testing.T) {
	for _, e := range wrongEntries() {
		if errno := Check(e); errno != api.ErrForm {
			t.Errorf("Check(%s) = %d; want ErrForm", told(e), errno)
		}
		if text, errno := Text(e); text != "" || errno != api.ErrForm {
			t.Errorf("Text(%s) = %.80q, %d; want ErrForm", told(e), text, errno)
		}
		if sum, errno := Sum(e); sum != (api.Hash{}) || errno != api.ErrForm {
			t.Errorf("Sum(%s) = %x, %d; want ErrForm", told(e), sum, errno)
		}
		if s, errno := Bytes(e); s != "" || errno != api.ErrForm {
			t.Errorf("Bytes(%s) = %.80q, %d; want ErrForm", told(e), s, errno)
		}
		// What would be the encoding of an entry that is not valid is none.
		wantNoBytes(t, list(wantText(e), e.Sig))
		if len(e.Sig) <= api.MaxText {
			wantNoText(t, wantText(e))
		}
	}
}

// Promise 19.1: a signed text of MaxText bytes has an encoding, a longer one has none; what is not valid is told ahead of it.
func TestLong(t *testing.T) {
	ahead := len(wantText(with(hall, func(e *api.Entry) { e.Event = strings.Repeat("x", 200) }))) - 200
	for size := api.MaxText - ahead - 3; size <= api.MaxText; size++ {
		e := with(hall, func(e *api.Entry) { e.Event, e.Sig = strings.Repeat("x", size), "y" })
		want := list(wantText(e), "y")
		if size > api.MaxText-ahead {
			want = ""
		}
		if s, errno := Bytes(e); s != want || (errno == api.OK) != (want != "") || errno != api.OK && errno != api.ErrLong {
			t.Errorf("Bytes with an event of %d bytes = %d bytes, %d", size, len(s), errno)
		}
		e.Epoch = -1
		if s, errno := Bytes(e); s != "" || errno != api.ErrForm {
			t.Errorf("Bytes(%s) = %d bytes, %d; want ErrForm", told(e), len(s), errno)
		}
	}
}

// Promise 19.1: texts that are no entry's signed text, for each of its parts.
func TestReadWrong(t *testing.T) {
	right := []string{"entry", "!hall:0", "\x01", "\x05", zeros, "x"}
	if list(right...) != hallText {
		t.Fatal("the parts are not those of the example")
	}
	change := func(at int, part string) {
		l := slices.Clone(right)
		l[at] = part
		wantCode(t, list(l...))
	}
	for _, word := range []string{"", "head", "offer", "entri", "entr", "entry ", "Entry", "\x05entry", "entry\x00"} {
		change(0, word)
	}
	for _, room := range []string{"", "hall", "@hall:0", "!hall", "!hall:64", "!hall:00"} {
		change(1, room)
	}
	for _, number := range []string{
		"", "\x80", "\x81\x00", "\x85\x00", "\x05\x00", "\x05\x05", "\x05\xff",
		varint(api.MaxEvents + 1), varint(1<<32 + 5), varint(api.MaxNum), varint(api.MaxNum + 1), varint(-1), strings.Repeat("\x80", 7),
	} {
		change(2, number)
		change(3, number)
	}
	for _, prev := range []string{"", zeros[1:], zeros + "\x00", zeros[:16], zeros + zeros, sha.Hex(api.Hash{})} {
		change(4, prev)
	}
	change(5, strings.Repeat("x", api.MaxText+1))
}

// Promise 19.1: lists of other lengths or in another order, and strings that are no lists.
func TestNoList(t *testing.T) {
	parts := []string{"entry", "!hall:0", "\x01", "\x05", zeros, "x"}
	for size := range len(parts) {
		wantCode(t, list(parts[:size]...))
		wantCode(t, list(parts[size+1:]...))
		wantCode(t, list(slices.Delete(slices.Clone(parts), size, size+1)...))
	}
	wantCode(t, list(append(slices.Clone(parts), "")...))
	wantCode(t, list(append(slices.Clone(parts), "y")...))
	wantCode(t, list(append([]string{""}, parts...)...))
	wantCode(t, list("!hall:0", "entry", "\x01", "\x05", zeros, "x"))
	wantCode(t, list("head", "!hall:0", "\x01", "\x05", zeros))
	for _, s := range []string{"", "\x00", "\x06", "\x80", "\x02", "\x86\x00" + hallText[1:], "x", strings.Repeat("\xff", 100), "\x06" + strings.Repeat("\x00", 6), hallText + hallText, "\x00" + hallText, strings.Repeat("\x00", 1<<20)} {
		wantCode(t, s)
	}
	for size := range len(hallText) {
		wantCode(t, hallText[:size])
	}
	// A signed text is no encoding, and an encoding no signed text.
	wantNoBytes(t, hallText)
	wantNoText(t, list(hallText, "y"))
	for _, l := range [][]string{{hallText}, {hallText, "y", "z"}, {hallText, "y", ""}, {"y", hallText}, {"", hallText}, {hallText + "\x00", "y"}, {hallText[1:], "y"}} {
		wantNoBytes(t, list(l...))
	}
	long := strings.Repeat("y", api.MaxText)
	if e, errno := Parse(list(hallText, long)); e.Sig != long || errno != api.OK {
		t.Errorf("Parse with a signature of MaxText bytes = %s, %d", told(e), errno)
	}
	wantNoBytes(t, list(hallText, long+"y"))
}

// Promise 19.2: the signature is the ring's of the signed text, and each one counts.
func TestSign(t *testing.T) {
	r, same := ring(t, "s", 2), ring(t, "s", 2)
	for i, e := range validEntries()[:4] {
		want, errno := same.Sign(wantText(e))
		if errno != api.OK {
			t.Fatalf("the ring's Sign = %d", errno)
		}
		got, errno := Sign(r, e)
		if got != with(e, func(e *api.Entry) { e.Sig = want }) || errno != api.OK {
			t.Errorf("Sign(%s) = %s, %d", told(e), told(got), errno)
		}
		if next := r.Key().Next; next != i+1 {
			t.Errorf("after %d signatures, Next is %d", i+1, next)
		}
	}
	for _, e := range validEntries() {
		if got, errno := Sign(r, e); got != e || errno != api.ErrOver {
			t.Errorf("Sign(%s) by a used up ring = %s, %d; want ErrOver", told(e), told(got), errno)
		}
	}
}

// Promise 19.2: what is not valid is not signed, and costs no signature; it is told ahead of the ring's error.
func TestSignWrong(t *testing.T) {
	fresh, over := ring(t, "s", 1), ring(t, "s", 0)
	signed(t, over, hall)
	for _, e := range wrongEntries() {
		for _, r := range []*key.Ring{fresh, over, {}} {
			if got, errno := Sign(r, e); got != e || errno != api.ErrForm {
				t.Errorf("Sign(%s) = %s, %d; want ErrForm", told(e), told(got), errno)
			}
		}
	}
	if next := fresh.Key().Next; next != 0 {
		t.Errorf("Next is %d, though nothing was signed", next)
	}
	e := with(hall, func(e *api.Entry) { e.Sig = "y" })
	if got, errno := Sign(&key.Ring{}, e); got != e || errno != api.ErrForm {
		t.Errorf("Sign by a ring that Make did not make = %s, %d; want ErrForm", told(got), errno)
	}
}

// Promise 19.2: the time of an entry is its index.
func TestVerifyTime(t *testing.T) {
	old, later, other := ring(t, "old", 4), ring(t, "later", 3), ring(t, "other", 3)
	b := []api.Grant{
		{Server: 1, From: 0, To: 99, High: 3, Root: other.Root()},
		{Server: 2, From: 3, To: 9, High: 4, Root: old.Root()},
		{Server: 2, From: 10, To: 10, High: 3, Root: later.Root()},
	}
	for index, want := range map[int]api.Errno{0: api.ErrNone, 2: api.ErrNone, 3: api.OK, 9: api.OK, 10: api.ErrForm, 11: api.ErrNone, api.MaxEvents: api.ErrNone} {
		e := signed(t, old, with(hall, func(e *api.Entry) { e.Index = index }))
		wantVerify(t, b, 2, e, want)
		wantVerify(t, b, 3, e, api.ErrNone)
		wantVerify(t, b, -1, e, api.ErrNone)
		wantVerify(t, nil, 2, e, api.ErrNone)
		wantVerify(t, slices.Concat(b, b), 2, e, api.ErrForm)
	}
	e := signed(t, later, with(hall, func(e *api.Entry) { e.Index = 10 }))
	wantVerify(t, b, 2, e, api.OK)
	wantVerify(t, b, 1, e, api.ErrSign)
	wantVerify(t, b, 2, with(e, func(e *api.Entry) { e.Epoch = 10 }), api.ErrSign)
	// The epoch is not the time.
	e = signed(t, old, with(hall, func(e *api.Entry) { e.Epoch = 20 }))
	wantVerify(t, b, 2, e, api.OK)
	// Nor does a long event matter.
	e = signed(t, old, with(hall, func(e *api.Entry) { e.Event = strings.Repeat("x", api.MaxText) }))
	wantVerify(t, b, 2, e, api.OK)
}

// Promise 19.2: whatever is otherwise than it was signed is found.
func TestVerifyChanged(t *testing.T) {
	r := ring(t, "s", 1)
	b := []api.Grant{{Server: 2, To: 4096, High: 1, Root: r.Root()}}
	e := signed(t, r, hall)
	for at := range 32 {
		wantVerify(t, b, 2, with(e, func(e *api.Entry) { e.Prev[at] ^= 1 }), api.ErrSign)
	}
	for _, change := range []func(e *api.Entry){
		func(e *api.Entry) { e.Room = "!hall:1" },
		func(e *api.Entry) { e.Epoch = 0 },
		func(e *api.Entry) { e.Epoch, e.Index = 5, 1 },
		func(e *api.Entry) { e.Index = 4 },
		func(e *api.Entry) { e.Index = 133 },
		func(e *api.Entry) { e.Event = "" },
		func(e *api.Entry) { e.Event = "y" },
		func(e *api.Entry) { e.Event = "x\x00" },
		func(e *api.Entry) { e.Sig = "\x01" + e.Sig[1:] },
		func(e *api.Entry) { e.Sig = e.Sig[:len(e.Sig)-1] + "\x00" },
		func(e *api.Entry) { e.Sig = e.Sig[:500] + string([]byte{e.Sig[500] ^ 1}) + e.Sig[501:] },
	} {
		wantVerify(t, b, 2, with(e, change), api.ErrSign)
	}
	for _, sig := range []string{"", "x", e.Sig[1:], e.Sig + "\x00", "\x02" + e.Sig[1:], strings.Repeat("y", api.MaxText)} {
		wantVerify(t, b, 2, with(e, func(e *api.Entry) { e.Sig = sig }), api.ErrForm)
	}
	// What is not valid is told ahead of all that the book says.
	for _, e := range wrongEntries() {
		wantVerify(t, b, 2, e, api.ErrForm)
		wantVerify(t, nil, 2, e, api.ErrForm)
	}
}

// Promise 19.3: strings that are one byte away from an encoding or a signed text.
func TestOneByteAway(t *testing.T) {
	for _, e := range validEntries()[:3] {
		s := list(wantText(e), e.Sig)
		for at := range len(s) {
			for b := range 256 {
				backAndThere(t, s[:at]+string([]byte{byte(b)})+s[at+1:])
				backAndThere(t, s[:at]+string([]byte{byte(b)})+s[at:])
			}
			wantCode(t, s[:at])
			backAndThere(t, s[:at]+s[at+1:])
		}
	}
}

// Promise 19.3: entries of random parts, of which many are valid.
func TestThereAndBack(t *testing.T) {
	source := rand.New(rand.NewSource(1))
	valid := 0
	for range 20000 {
		e := someEntry(source)
		s, errno := Bytes(e)
		if checked := Check(e); errno != checked && (checked != api.OK || errno != api.ErrLong || len(wantText(e)) <= api.MaxText) {
			t.Fatalf("Bytes(%s) = %d, and Check = %d", told(e), errno, checked)
		}
		if errno != api.OK {
			continue
		}
		valid++
		if got, errno := Parse(s); got != e || errno != api.OK {
			t.Fatalf("Parse(%.80q) = %s, %d; want %s", s, told(got), errno, told(e))
		}
		wantNoBytes(t, s+"\x00")
	}
	if valid < 2000 {
		t.Errorf("only %d entries were valid", valid)
	}
}

// someEntry is an entry of parts that are mostly right.
func someEntry(source *rand.Rand) api.Entry {
	rooms := []string{"!hall:0", "!hall:63", "!-_:1", "!abcdefghijklmnop:10", "!h:4", "@hall:0"}
	text := func(size int) string {
		b := make([]byte, source.Intn(size))
		source.Read(b)
		return string(b)
	}
	return api.Entry{
		Room:  rooms[source.Intn(len(rooms))],
		Epoch: source.Intn(api.MaxEvents+40) - 20,
		Index: source.Intn(api.MaxEvents+40) - 20,
		Prev:  sha.Sum(text(9)),
		Event: text([]int{9, 900, api.MaxText + 90}[source.Intn(3)]),
		Sig:   text([]int{9, 1500, api.MaxText + 90}[source.Intn(3)]),
	}
}

// Promise 19.3: no two entries have one encoding, and no two that differ in more than Sig have one signed text.
func TestApart(t *testing.T) {
	seen, seenTexts := map[string]api.Entry{}, map[string]api.Entry{}
	for _, e := range validEntries() {
		text, _ := Text(e)
		bare := with(e, func(e *api.Entry) { e.Sig = "" })
		if other, is := seenTexts[text]; is && other != bare {
			t.Errorf("%s and %s have one signed text", told(e), told(other))
		}
		seenTexts[text] = bare
		s, errno := Bytes(e)
		if other, is := seen[s]; errno == api.OK && is {
			t.Errorf("%s and %s have one encoding", told(e), told(other))
		}
		seen[s] = e
	}
}

// Promise 19.3.
func FuzzBackAndThere(f *testing.F) {
	for _, e := range validEntries() {
		f.Add(wantText(e))
		f.Add(list(wantText(e), e.Sig))
	}
	f.Fuzz(func(t *testing.T, s string) { backAndThere(t, s) })
}

// backAndThere fails a test if Parse or Read takes a string that is not the encoding or the signed text of a valid entry, its answer.
func backAndThere(t *testing.T, s string) {
	t.Helper()
	if e, errno := Parse(s); errno != api.OK {
		wantNoBytes(t, s)
	} else if again, errno := Bytes(e); Check(e) != api.OK || again != s || errno != api.OK || again != list(wantText(e), e.Sig) {
		t.Fatalf("Parse(%.80q) = %s, whose encoding is %.80q, %d", s, told(e), again, errno)
	}
	if e, errno := Read(s); errno != api.OK {
		wantNoText(t, s)
	} else if again, errno := Text(e); Check(e) != api.OK || again != s || errno != api.OK || again != wantText(e) || e.Sig != "" {
		t.Fatalf("Read(%.80q) = %s, whose signed text is %.80q, %d", s, told(e), again, errno)
	}
}

// Promises 19.1 and 19.2, by the rule that an answer is new memory.
func TestNewMemory(t *testing.T) {
	e := api.Entry{Room: strings.Clone("!hall:0"), Epoch: 1, Index: 5, Event: strings.Clone("an event"), Sig: strings.Clone("a signature")}
	text, _ := Text(e)
	s, _ := Bytes(e)
	got, _ := Parse(s)
	read, _ := Read(text)
	r := ring(t, "s", 0)
	done := signed(t, r, e)
	over, _ := Sign(r, e)
	same := Clone(e)
	for _, part := range []string{e.Room, e.Event, e.Sig} {
		apart(t, "Text", part, text)
		apart(t, "Bytes", part, s)
		for _, result := range []api.Entry{done, over, same} {
			apart(t, "Sign or Clone", part, result.Room)
			apart(t, "Sign or Clone", part, result.Event)
			apart(t, "Sign or Clone", part, result.Sig)
		}
	}
	for _, part := range []string{got.Room, got.Event, got.Sig} {
		apart(t, "Parse", s, part)
	}
	for _, part := range []string{read.Room, read.Event} {
		apart(t, "Read", text, part)
	}
}

// Clone has no promise of its own: by it, other packages hand out entries in new memory.
func TestClone(t *testing.T) {
	for _, e := range append(validEntries(), wrongEntries()...) {
		if same := Clone(e); same != e {
			t.Errorf("Clone(%s) = %s", told(e), told(same))
		}
	}
}

// apart fails a test if a result lies inside an argument's memory.
func apart(t *testing.T, call, argument, result string) {
	t.Helper()
	from := uintptr(unsafe.Pointer(unsafe.StringData(argument)))
	at := uintptr(unsafe.Pointer(unsafe.StringData(result)))
	if from <= at && at < from+uintptr(len(argument)) {
		t.Errorf("%s: the result lies in the argument's memory", call)
	}
}
