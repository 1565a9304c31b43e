package handover

import (
	"encoding/binary"
	"fmt"
	"math"
	"math/rand"
	"slices"
	"strings"
	"testing"
	"unsafe"

	"palaver/api"
	"palaver/entry"
	"palaver/head"
	"palaver/key"
)

// hall is the chapter's offer without a signature, yes its acceptance, and hallText the offer's signed text, written out by hand.
var (
	hall     = api.Deal{Kind: api.DealOffer, Room: "!hall:0", Epoch: 1, Index: 5, Hub: 2, Next: 1}
	yes      = api.Deal{Kind: api.DealAccept, Room: "!hall:0", Epoch: 1, Index: 5, Hub: 2, Next: 1}
	hallText = "\x06" + "\x05offer" + "\x07!hall:0" + "\x01\x01" + "\x01\x05" + "\x01\x02" + "\x01\x01"
)

// with is a deal that was changed.
func with(d api.Deal, change func(d *api.Deal)) api.Deal {
	change(&d)
	return d
}

// list is the encoding of a list of strings, by the library's numbers.
func list(l ...string) string {
	b := binary.AppendUvarint(nil, uint64(len(l)))
	for _, s := range l {
		b = append(binary.AppendUvarint(b, uint64(len(s))), s...)
	}
	return string(b)
}

// varint is the encoding of a number, by the library.
func varint(n int) string {
	return string(binary.AppendUvarint(nil, uint64(n)))
}

// wantText is a valid deal's signed text, apart from the program's; for any other kind than an offer it is that of an acceptance.
func wantText(d api.Deal) string {
	word := "accept"
	if d.Kind == api.DealOffer {
		word = "offer"
	}
	return list(word, d.Room, varint(d.Epoch), varint(d.Index), varint(d.Hub), varint(d.Next))
}

// validDeals are valid deals, with edges of what may be.
func validDeals() []api.Deal {
	longest := strings.Repeat("y", api.MaxText)
	offers := []api.Deal{
		hall,
		{Room: "!hall:0", Next: 1},
		{Room: "!hall:0", Hub: 1, Sig: "y"},
		{Room: "!abcdefghijklmnop:63", Epoch: api.MaxEvents, Index: api.MaxEvents, Hub: api.MaxServer, Next: api.MaxServer - 1, Sig: longest},
		{Room: "!-_9:10", Epoch: api.MaxEvents - 1, Hub: api.MaxServer - 1, Next: api.MaxServer, Sig: longest[1:]},
		{Room: "!hall:0", Index: api.MaxEvents, Next: api.MaxServer, Sig: "\x00"},
		{Room: "!hall:0", Epoch: 127, Index: 128, Hub: api.MaxServer, Sig: longest[:127]},
		{Room: "!hall:0", Epoch: 128, Index: 127, Hub: 5, Next: 7, Sig: longest[:128]},
	}
	deals := []api.Deal{}
	for _, kind := range []api.DealKind{api.DealOffer, api.DealAccept} {
		for _, d := range offers {
			deals = append(deals, with(d, func(d *api.Deal) { d.Kind = kind }))
		}
	}
	return deals
}

// wrongDeals are deals that are not valid, each by one thing.
func wrongDeals() []api.Deal {
	wrong := []api.Deal{{}}
	for _, right := range []api.Deal{hall, yes} {
		change := func(change func(d *api.Deal)) {
			wrong = append(wrong, with(right, change))
		}
		for _, kind := range []api.DealKind{api.DealNone, api.DealCount, api.DealCount + 1, 128, 255} {
			change(func(d *api.Deal) { d.Kind = kind })
		}
		for _, room := range []string{"", "!", "hall", "hall:0", "@hall:0", "@ann:0", "!hall", "!hall:", "!hall:00", "!hall:64", "!hall:-1", "!Hall:0", "!hall:0 ", "!abcdefghijklmnopq:0", "!hall:0!hall:0", "!h\x00:0"} {
			change(func(d *api.Deal) { d.Room = room })
		}
		for _, n := range []int{-1, -5, math.MinInt, api.MaxEvents + 1, 1 << 32, api.MaxNum, api.MaxNum + 1, math.MaxInt} {
			change(func(d *api.Deal) { d.Epoch = n })
			change(func(d *api.Deal) { d.Index = n })
		}
		for _, n := range []int{-1, -5, math.MinInt, api.MaxServer + 1, api.MaxEvents, 1 << 32, api.MaxNum, api.MaxNum + 1, math.MaxInt} {
			change(func(d *api.Deal) { d.Hub = n })
			change(func(d *api.Deal) { d.Next = n })
		}
		for _, n := range []int{0, 1, api.MaxServer} {
			change(func(d *api.Deal) { d.Hub, d.Next = n, n })
		}
		for _, size := range []int{api.MaxText + 1, 2 * api.MaxText, 1 << 20} {
			change(func(d *api.Deal) { d.Sig = strings.Repeat("y", size) })
		}
	}
	return wrong
}

// told is a deal with no more than the beginnings of its texts.
func told(d api.Deal) string {
	return fmt.Sprintf("{%d %.40q %d %d %d %d %.10q (%d bytes)}", d.Kind, d.Room, d.Epoch, d.Index, d.Hub, d.Next, d.Sig, len(d.Sig))
}

// wantNoText fails a test unless Parse refuses what would be the encoding of the deal with a signed text.
func wantNoText(t *testing.T, text string) {
	t.Helper()
	wantNoBytes(t, list(text, ""))
	wantNoBytes(t, list(text, "y"))
}

// wantNoBytes fails a test unless Parse refuses s.
func wantNoBytes(t *testing.T, s string) {
	t.Helper()
	if d, errno := Parse(s); d != (api.Deal{}) || errno != api.ErrCode {
		t.Errorf("Parse(%.80q) = %s, %d; want ErrCode", s, told(d), errno)
	}
}

// ring is a ring of a key.
func ring(t *testing.T, seed string, high int) *key.Ring {
	t.Helper()
	r, errno := key.Make(api.Key{Seed: seed, High: high})
	if errno != api.OK {
		t.Fatalf("Make = %d", errno)
	}
	return r
}

// signed is a deal with a ring's signature.
func signed(t *testing.T, r *key.Ring, d api.Deal) api.Deal {
	t.Helper()
	d, errno := Sign(r, d)
	if errno != api.OK {
		t.Fatalf("Sign(%s) = %d", told(d), errno)
	}
	return d
}

// wantVerify fails a test unless Verify answers this.
func wantVerify(t *testing.T, b []api.Grant, d api.Deal, want api.Errno) {
	t.Helper()
	if errno := Verify(b, d); errno != want {
		t.Errorf("Verify(.., %s) = %d; want %d", told(d), errno, want)
	}
}

// wantFits fails a test unless Fits answers this.
func wantFits(t *testing.T, offer, accept api.Deal, want bool) {
	t.Helper()
	if got := Fits(offer, accept); got != want {
		t.Errorf("Fits(%s, %s) = %t; want %t", told(offer), told(accept), got, want)
	}
}

// Promises 24.1 and 24.2: the chapter's examples.
func TestExamples(t *testing.T) {
	if errno := Check(api.Deal{}); errno != api.ErrForm {
		t.Errorf("Check of the zero deal = %d", errno)
	}
	if text, errno := Text(hall); text != hallText || errno != api.OK {
		t.Errorf("Text = %q, %d; want %q", text, errno, hallText)
	}
	r := ring(t, "s", 1)
	f := signed(t, r, hall)
	s, errno := Bytes(f)
	if s != list(hallText, f.Sig) || errno != api.OK {
		t.Errorf("Bytes = %.80q, %d", s, errno)
	}
	if got, errno := Parse(s); got != f || errno != api.OK {
		t.Errorf("Parse = %s, %d; want %s", told(got), errno, told(f))
	}
	for b := range 256 {
		wantNoBytes(t, s+string([]byte{byte(b)}))
		wantNoText(t, hallText+string([]byte{byte(b)}))
	}
	a, errno := Answer(f)
	if a != yes || errno != api.OK {
		t.Errorf("Answer = %s, %d; want %s", told(a), errno, told(yes))
	}
	if d, errno := Answer(a); d != (api.Deal{}) || errno != api.ErrState {
		t.Errorf("Answer of an acceptance = %s, %d; want ErrState", told(d), errno)
	}
	b := []api.Grant{{Server: 2, To: 9, High: 1, Root: r.Root()}}
	wantVerify(t, b, f, api.OK)
	wantVerify(t, b, a, api.ErrNone)
	wantFits(t, f, a, true)
	wantFits(t, a, f, false)
}

// Promise 24.1.
func TestValid(t *testing.T) {
	for _, d := range validDeals() {
		if errno := Check(d); errno != api.OK {
			t.Errorf("Check(%s) = %d; want OK", told(d), errno)
		}
		text := wantText(d)
		if got, errno := Text(d); got != text || errno != api.OK {
			t.Errorf("Text(%s) = %q, %d; want %q", told(d), got, errno, text)
		}
		if s, errno := Bytes(d); s != list(text, d.Sig) || errno != api.OK {
			t.Errorf("Bytes(%s) = %.80q, %d", told(d), s, errno)
		}
		if got, errno := Parse(list(text, d.Sig)); got != d || errno != api.OK {
			t.Errorf("Parse of the encoding = %s, %d; want %s", told(got), errno, told(d))
		}
	}
}

// Promise 24.1.
func TestWrong(t *testing.T) {
	for _, d := range wrongDeals() {
		if errno := Check(d); errno != api.ErrForm {
			t.Errorf("Check(%s) = %d; want ErrForm", told(d), errno)
		}
		if text, errno := Text(d); text != "" || errno != api.ErrForm {
			t.Errorf("Text(%s) = %.80q, %d; want ErrForm", told(d), text, errno)
		}
		if s, errno := Bytes(d); s != "" || errno != api.ErrForm {
			t.Errorf("Bytes(%s) = %.80q, %d; want ErrForm", told(d), s, errno)
		}
		// What would be the encoding of a deal that is not valid is none; for a wrong kind there is no word.
		if d.Kind == api.DealOffer || d.Kind == api.DealAccept {
			wantNoBytes(t, list(wantText(d), d.Sig))
		}
	}
}

// Promise 24.1: encodings whose text is no deal's signed text, for each of its parts.
func TestParseWrong(t *testing.T) {
	right := []string{"offer", "!hall:0", "\x01", "\x05", "\x02", "\x01"}
	if list(right...) != hallText {
		t.Fatal("the parts are not those of the example")
	}
	change := func(at int, part string) {
		l := slices.Clone(right)
		l[at] = part
		wantNoText(t, list(l...))
	}
	for _, word := range []string{"", "entry", "head", "cert", "deal", "offe", "offers", "offer ", "Offer", "\x05offer", "offer\x00", "accep", "accepts", "Accept", "\x01", "\x02"} {
		change(0, word)
	}
	for _, room := range []string{"", "hall", "@hall:0", "!hall", "!hall:64", "!hall:00"} {
		change(1, room)
	}
	for _, number := range []string{
		"", "\x80", "\x81\x00", "\x85\x00", "\x05\x00", "\x05\x05", "\x05\xff",
		varint(api.MaxEvents + 1), varint(1<<32 + 5), varint(api.MaxNum), varint(api.MaxNum + 1), varint(-1), strings.Repeat("\x80", 7),
	} {
		for at := 2; at < len(right); at++ {
			change(at, number)
		}
	}
	for _, server := range []int{api.MaxServer + 1, 128, api.MaxEvents} {
		change(4, varint(server))
		change(5, varint(server))
	}
	change(4, "\x01")
	change(5, "\x02")
}

// Promise 24.1: lists of other lengths or in another order, and strings that are no lists.
func TestNoList(t *testing.T) {
	parts := []string{"offer", "!hall:0", "\x01", "\x05", "\x02", "\x01"}
	for at := range len(parts) {
		wantNoText(t, list(parts[:at]...))
		wantNoText(t, list(parts[at+1:]...))
		wantNoText(t, list(slices.Delete(slices.Clone(parts), at, at+1)...))
	}
	wantNoText(t, list(append(slices.Clone(parts), "")...))
	wantNoText(t, list(append([]string{""}, parts...)...))
	wantNoText(t, list("!hall:0", "offer", "\x01", "\x05", "\x02", "\x01"))
	for _, s := range []string{"", "\x00", "\x06", "\x80", "\x02", "\x86\x00" + hallText[1:], "x", strings.Repeat("\xff", 100), "\x06" + strings.Repeat("\x00", 6), hallText + hallText, "\x00" + hallText, strings.Repeat("\x00", 1<<20)} {
		wantNoText(t, s)
		wantNoBytes(t, s)
	}
	for size := range len(hallText) {
		wantNoText(t, hallText[:size])
	}
	// A signed text is no encoding, and an encoding no signed text.
	wantNoBytes(t, hallText)
	wantNoText(t, list(hallText, "y"))
	for _, l := range [][]string{{hallText}, {hallText, "y", "z"}, {hallText, "y", ""}, {"y", hallText}, {"", hallText}, {hallText + "\x00", "y"}, {hallText[1:], "y"}} {
		wantNoBytes(t, list(l...))
	}
	wantNoBytes(t, list(hallText, strings.Repeat("y", api.MaxText+1)))
}

// Promise 24.1: the signature is the ring's of the signed text, and each one counts.
func TestSign(t *testing.T) {
	r, same := ring(t, "s", 4), ring(t, "s", 4)
	for i, d := range validDeals() {
		want, errno := same.Sign(wantText(d))
		if errno != api.OK {
			t.Fatalf("the ring's Sign = %d", errno)
		}
		got, errno := Sign(r, d)
		if got != with(d, func(d *api.Deal) { d.Sig = want }) || errno != api.OK {
			t.Errorf("Sign(%s) = %s, %d", told(d), told(got), errno)
		}
		if next := r.Key().Next; next != i+1 {
			t.Errorf("after %d signatures, Next is %d", i+1, next)
		}
	}
	for _, d := range validDeals() {
		if got, errno := Sign(r, d); got != d || errno != api.ErrOver {
			t.Errorf("Sign(%s) by a used up ring = %s, %d; want ErrOver", told(d), told(got), errno)
		}
	}
}

// Promise 24.1: what is not valid is not signed, and costs no signature; it is told ahead of the ring's error.
func TestSignWrong(t *testing.T) {
	fresh, over := ring(t, "s", 1), ring(t, "s", 0)
	signed(t, over, hall)
	for _, d := range wrongDeals() {
		for _, r := range []*key.Ring{fresh, over, {}, nil} {
			if got, errno := Sign(r, d); got != d || errno != api.ErrForm {
				t.Errorf("Sign(%s) = %s, %d; want ErrForm", told(d), told(got), errno)
			}
		}
	}
	if next := fresh.Key().Next; next != 0 {
		t.Errorf("Next is %d, though nothing was signed", next)
	}
	d := with(hall, func(d *api.Deal) { d.Sig = "y" })
	for _, r := range []*key.Ring{{}, nil} {
		if got, errno := Sign(r, d); got != d || errno != api.ErrForm {
			t.Errorf("Sign by a ring that Make did not make = %s, %d; want ErrForm", told(got), errno)
		}
	}
}

// Promise 24.1: the hub signs an offer, and the next one an acceptance.
func TestSigner(t *testing.T) {
	hub, next := ring(t, "hub", 2), ring(t, "next", 2)
	b := []api.Grant{
		{Server: 1, To: 99, High: 2, Root: next.Root()},
		{Server: 2, To: 99, High: 2, Root: hub.Root()},
	}
	wantVerify(t, b, signed(t, hub, hall), api.OK)
	wantVerify(t, b, signed(t, next, hall), api.ErrSign)
	wantVerify(t, b, signed(t, next, yes), api.OK)
	wantVerify(t, b, signed(t, hub, yes), api.ErrSign)
	wantVerify(t, b[:1], signed(t, hub, hall), api.ErrNone)
	wantVerify(t, b[1:], signed(t, next, yes), api.ErrNone)
}

// Promise 24.1: the time of a deal is its index.
func TestVerifyTime(t *testing.T) {
	old, later, other := ring(t, "old", 4), ring(t, "later", 3), ring(t, "other", 3)
	b := []api.Grant{
		{Server: 1, From: 0, To: 99, High: 3, Root: other.Root()},
		{Server: 2, From: 3, To: 9, High: 4, Root: old.Root()},
		{Server: 2, From: 10, To: 10, High: 3, Root: later.Root()},
	}
	for index, want := range map[int]api.Errno{0: api.ErrNone, 2: api.ErrNone, 3: api.OK, 9: api.OK, 10: api.ErrForm, 11: api.ErrNone, api.MaxEvents: api.ErrNone} {
		d := signed(t, old, with(hall, func(d *api.Deal) { d.Index = index }))
		wantVerify(t, b, d, want)
		wantVerify(t, nil, d, api.ErrNone)
		wantVerify(t, slices.Concat(b, b), d, api.ErrForm)
	}
	wantVerify(t, b, signed(t, later, with(hall, func(d *api.Deal) { d.Index = 10 })), api.OK)
	// The epoch is not the time.
	wantVerify(t, b, signed(t, old, with(hall, func(d *api.Deal) { d.Epoch = 20 })), api.OK)
}

// Promise 24.1: whatever is otherwise than it was signed is found.
func TestVerifyChanged(t *testing.T) {
	r := ring(t, "s", 1)
	b := []api.Grant{
		{Server: 1, To: api.MaxEvents, High: 1, Root: r.Root()},
		{Server: 2, To: api.MaxEvents, High: 1, Root: r.Root()},
		{Server: 3, To: api.MaxEvents, High: 1, Root: r.Root()},
	}
	d := signed(t, r, hall)
	wantVerify(t, b, d, api.OK)
	for _, change := range []func(d *api.Deal){
		func(d *api.Deal) { d.Kind = api.DealAccept },
		func(d *api.Deal) { d.Room = "!hall:1" },
		func(d *api.Deal) { d.Epoch = 0 },
		func(d *api.Deal) { d.Epoch, d.Index = 5, 1 },
		func(d *api.Deal) { d.Index = 4 },
		func(d *api.Deal) { d.Index = 133 },
		func(d *api.Deal) { d.Hub = 3 },
		func(d *api.Deal) { d.Next = 3 },
		func(d *api.Deal) { d.Hub, d.Next = 1, 2 },
		func(d *api.Deal) { d.Sig = "\x01" + d.Sig[1:] },
		func(d *api.Deal) { d.Sig = d.Sig[:len(d.Sig)-1] + "\x00" },
		func(d *api.Deal) { d.Sig = d.Sig[:500] + string([]byte{d.Sig[500] ^ 1}) + d.Sig[501:] },
	} {
		wantVerify(t, b, with(d, change), api.ErrSign)
	}
	for _, sig := range []string{"", "x", d.Sig[1:], d.Sig + "\x00", "\x02" + d.Sig[1:], strings.Repeat("y", api.MaxText)} {
		wantVerify(t, b, with(d, func(d *api.Deal) { d.Sig = sig }), api.ErrForm)
	}
	// What is not valid is told ahead of all that the book says.
	for _, d := range wrongDeals() {
		wantVerify(t, b, d, api.ErrForm)
		wantVerify(t, nil, d, api.ErrForm)
	}
}

// Promise 24.2.
func TestAnswer(t *testing.T) {
	for _, d := range validDeals() {
		want, wantErrno := with(d, func(d *api.Deal) { d.Kind, d.Sig = api.DealAccept, "" }), api.OK
		if d.Kind == api.DealAccept {
			want, wantErrno = api.Deal{}, api.ErrState
		}
		if got, errno := Answer(d); got != want || errno != wantErrno {
			t.Errorf("Answer(%s) = %s, %d; want %s, %d", told(d), told(got), errno, told(want), wantErrno)
		}
	}
	for _, d := range wrongDeals() {
		if got, errno := Answer(d); got != (api.Deal{}) || errno != api.ErrForm {
			t.Errorf("Answer(%s) = %s, %d; want ErrForm", told(d), told(got), errno)
		}
	}
}

// Promises 24.2 and 24.4: of all valid deals, an offer is fitted by the acceptances that differ from its answer in the signature alone.
func TestFits(t *testing.T) {
	deals := validDeals()
	for _, offer := range validDeals() {
		deals = append(deals, with(offer, func(d *api.Deal) { d.Sig = "another" }))
	}
	pairs := 0
	for _, offer := range deals {
		for _, accept := range deals {
			same := offer.Room == accept.Room && offer.Epoch == accept.Epoch && offer.Index == accept.Index && offer.Hub == accept.Hub && offer.Next == accept.Next
			want := same && offer.Kind == api.DealOffer && accept.Kind == api.DealAccept
			wantFits(t, offer, accept, want)
			if want {
				pairs++
			}
		}
	}
	if pairs != 8*2*2 {
		t.Errorf("%d pairs that fit", pairs)
	}
}

// Promises 24.2 and 24.4: each field but the signature counts.
func TestFitsOne(t *testing.T) {
	sig := func(d *api.Deal) { d.Sig = "y" }
	wantFits(t, hall, yes, true)
	wantFits(t, with(hall, sig), yes, true)
	wantFits(t, hall, with(yes, sig), true)
	for _, change := range []func(d *api.Deal){
		func(d *api.Deal) { d.Room = "!hall:1" },
		func(d *api.Deal) { d.Room = "!halls:0" },
		func(d *api.Deal) { d.Epoch = 0 },
		func(d *api.Deal) { d.Epoch = 2 },
		func(d *api.Deal) { d.Epoch, d.Index = 5, 1 },
		func(d *api.Deal) { d.Index = 4 },
		func(d *api.Deal) { d.Index = 6 },
		func(d *api.Deal) { d.Hub = 3 },
		func(d *api.Deal) { d.Next = 3 },
		func(d *api.Deal) { d.Hub, d.Next = 1, 2 },
	} {
		wantFits(t, with(hall, change), yes, false)
		wantFits(t, hall, with(yes, change), false)
		wantFits(t, with(hall, change), with(yes, change), true)
	}
	for _, wrong := range wrongDeals() {
		wantFits(t, wrong, yes, false)
		wantFits(t, hall, wrong, false)
		// What is wrong in both alike does not fit either; what was wrong by its kind alone is right now.
		offer := with(wrong, func(d *api.Deal) { d.Kind = api.DealOffer })
		accept := with(wrong, func(d *api.Deal) { d.Kind = api.DealAccept })
		wantFits(t, offer, accept, Check(offer) == api.OK)
	}
	for _, size := range []int{api.MaxText, api.MaxText + 1} {
		long := func(d *api.Deal) { d.Sig = strings.Repeat("y", size) }
		wantFits(t, with(hall, long), yes, size == api.MaxText)
		wantFits(t, hall, with(yes, long), size == api.MaxText)
	}
	wantFits(t, hall, hall, false)
	wantFits(t, yes, yes, false)
	wantFits(t, api.Deal{}, api.Deal{}, false)
}

// Promise 24.3: encodings that are one byte away from another.
func TestOneByteAway(t *testing.T) {
	for _, d := range []api.Deal{hall, with(yes, func(d *api.Deal) { d.Sig = "y" }), validDeals()[1]} {
		s := list(wantText(d), d.Sig)
		for at := range len(s) {
			for b := range 256 {
				backAndThere(t, s[:at]+string([]byte{byte(b)})+s[at+1:])
				backAndThere(t, s[:at]+string([]byte{byte(b)})+s[at:])
			}
			wantNoBytes(t, s[:at])
			backAndThere(t, s[:at]+s[at+1:])
		}
	}
}

// Promise 24.3: deals of random parts, of which many are valid; no two of them have one encoding.
func TestThereAndBack(t *testing.T) {
	source := rand.New(rand.NewSource(1))
	seen := map[string]api.Deal{}
	for range 20000 {
		d := someDeal(source)
		s, errno := Bytes(d)
		if checked := Check(d); errno != checked {
			t.Fatalf("Bytes(%s) = %d, and Check = %d", told(d), errno, checked)
		}
		if errno != api.OK {
			continue
		}
		if got, errno := Parse(s); got != d || errno != api.OK {
			t.Fatalf("Parse(%.80q) = %s, %d; want %s", s, told(got), errno, told(d))
		}
		if other, is := seen[s]; is && other != d {
			t.Fatalf("%s and %s have one encoding", told(d), told(other))
		}
		seen[s] = d
		wantNoBytes(t, s+"\x00")
	}
	if len(seen) < 2000 {
		t.Errorf("only %d deals were valid", len(seen))
	}
}

// someDeal is a deal of parts that are mostly right.
func someDeal(source *rand.Rand) api.Deal {
	rooms := []string{"!hall:0", "!hall:63", "!-_:1", "!abcdefghijklmnop:10", "!h:4", "@hall:0"}
	sig := make([]byte, source.Intn([]int{9, 1500, api.MaxText + 90}[source.Intn(3)]))
	source.Read(sig)
	return api.Deal{
		Kind:  api.DealKind(source.Intn(5)),
		Room:  rooms[source.Intn(len(rooms))],
		Epoch: source.Intn(api.MaxEvents+40) - 20,
		Index: source.Intn(api.MaxEvents+40) - 20,
		Hub:   source.Intn(api.MaxServer+4) - 1,
		Next:  source.Intn(api.MaxServer+4) - 1,
		Sig:   string(sig),
	}
}

// Promise 24.1: what is signed for a deal was not signed for an entry or a head, nor the other way round.
func TestNothingElse(t *testing.T) {
	for _, d := range validDeals() {
		text, _ := Text(d)
		if e, errno := entry.Read(text); e != (api.Entry{}) || errno != api.ErrCode {
			t.Errorf("the signed text of %s is that of an entry: %v, %d", told(d), e, errno)
		}
		if h, errno := head.Read(text); h != (api.Head{}) || errno != api.ErrCode {
			t.Errorf("the signed text of %s is that of a head: %v, %d", told(d), h, errno)
		}
		e := api.Entry{Room: d.Room, Epoch: d.Epoch, Index: d.Index, Event: text}
		theirs, _ := entry.Text(e)
		wantNoText(t, theirs)
		h, _ := head.Of(e)
		theirs, _ = head.Text(h)
		wantNoText(t, theirs)
	}
}

// Promise 24.3.
func FuzzBackAndThere(f *testing.F) {
	for _, d := range validDeals() {
		f.Add(wantText(d))
		f.Add(list(wantText(d), d.Sig))
	}
	f.Fuzz(func(t *testing.T, s string) { backAndThere(t, s) })
}

// backAndThere fails a test if Parse takes a string that is not the encoding of a valid deal, its answer.
func backAndThere(t *testing.T, s string) {
	t.Helper()
	if d, errno := Parse(s); errno != api.OK {
		wantNoBytes(t, s)
	} else if again, errno := Bytes(d); Check(d) != api.OK || again != s || errno != api.OK || again != list(wantText(d), d.Sig) {
		t.Fatalf("Parse(%.80q) = %s, whose encoding is %.80q, %d", s, told(d), again, errno)
	}
}

// Promises 24.1 and 24.2, by the rule that an answer is new memory.
func TestNewMemory(t *testing.T) {
	d := with(hall, func(d *api.Deal) { d.Room, d.Sig = strings.Clone("!hall:0"), strings.Clone("a signature") })
	text, _ := Text(d)
	s, _ := Bytes(d)
	got, _ := Parse(s)
	answer, _ := Answer(d)
	r := ring(t, "s", 0)
	done := signed(t, r, d)
	over, _ := Sign(r, d)
	for _, part := range []string{d.Room, d.Sig} {
		apart(t, "Text", part, text)
		apart(t, "Bytes", part, s)
		apart(t, "Answer", part, answer.Room)
		for _, result := range []api.Deal{done, over} {
			apart(t, "Sign", part, result.Room)
			apart(t, "Sign", part, result.Sig)
		}
	}
	apart(t, "Parse", s, got.Room)
	apart(t, "Parse", s, got.Sig)
}

// apart fails a test if a result lies inside an argument's memory.
func apart(t *testing.T, call, argument, result string) {
	t.Helper()
	from := uintptr(unsafe.Pointer(unsafe.StringData(argument)))
	at := uintptr(unsafe.Pointer(unsafe.StringData(result)))
	if from <= at && at < from+uintptr(len(argument)) {
		t.Errorf("%s: the result lies in the argument's memory", call)
	}
}
