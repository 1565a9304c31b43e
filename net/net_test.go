package net

import (
	"fmt"
	"math"
	"math/rand"
	"slices"
	"strings"
	"testing"
	"unsafe"

	"palaver/api"
)

// empty is a new network.
func empty(t *testing.T, room int) *Net {
	t.Helper()
	n, errno := New(room)
	if n == nil || errno != api.OK {
		t.Fatalf("New(%d) = %v, %d; want OK", room, n, errno)
	}
	return n
}

// of is a network with room for four messages more than it has.
func of(t *testing.T, texts ...string) *Net {
	t.Helper()
	n := empty(t, len(texts)+4)
	for _, text := range texts {
		wantPut(t, n, text, api.OK)
	}
	return n
}

// want fails a test unless a network has lost so many messages, and these are there, in order.
func want(t *testing.T, n *Net, lost int, texts ...string) {
	t.Helper()
	if got := n.All(); !slices.Equal(got, texts) {
		t.Errorf("All = %.200q; want %.200q", got, texts)
	}
	if n.Len() != len(texts) {
		t.Errorf("Len = %d; want %d", n.Len(), len(texts))
	}
	if n.Lost() != lost {
		t.Errorf("Lost = %d; want %d", n.Lost(), lost)
	}
}

// wantPut fails a test unless Put answers this.
func wantPut(t *testing.T, n *Net, text string, want api.Errno) {
	t.Helper()
	if errno := n.Put(text); errno != want {
		t.Errorf("Put(%.20q) = %d; want %d", text, errno, want)
	}
}

// wantTake fails a test unless Take answers this.
func wantTake(t *testing.T, n *Net, i int, want string, wrong api.Errno) {
	t.Helper()
	if text, errno := n.Take(i); text != want || errno != wrong {
		t.Errorf("Take(%d) = %.20q, %d; want %.20q, %d", i, text, errno, want, wrong)
	}
}

// wantDrop fails a test unless Drop answers this.
func wantDrop(t *testing.T, n *Net, i int, want api.Errno) {
	t.Helper()
	if errno := n.Drop(i); errno != want {
		t.Errorf("Drop(%d) = %d; want %d", i, errno, want)
	}
}

// wantDouble fails a test unless Double answers this.
func wantDouble(t *testing.T, n *Net, i int, want api.Errno) {
	t.Helper()
	if errno := n.Double(i); errno != want {
		t.Errorf("Double(%d) = %d; want %d", i, errno, want)
	}
}

// wantNone fails a test unless there is no message i for any call, and the network remains as it was.
func wantNone(t *testing.T, n *Net, i int) {
	t.Helper()
	texts, lost := n.All(), n.Lost()
	wantTake(t, n, i, "", api.ErrNone)
	wantDrop(t, n, i, api.ErrNone)
	wantDouble(t, n, i, api.ErrNone)
	want(t, n, lost, texts...)
}

// Promises 29.1 and 29.2: the chapter's examples.
func TestExamples(t *testing.T) {
	if n, errno := New(0); n != nil || errno != api.ErrRange {
		t.Errorf("New(0) = %v, %d", n, errno)
	}
	n := empty(t, 2)
	wantPut(t, n, "a", api.OK)
	wantDouble(t, n, 0, api.OK)
	wantPut(t, n, "b", api.ErrFull)
	want(t, n, 1, "a", "a")
	wantDrop(t, n, 2, api.ErrNone)
	wantTake(t, n, 1, "a", api.OK)
	wantDrop(t, n, 0, api.OK)
	want(t, n, 2)
}

// Promise 29.1: how much room there may be.
func TestNew(t *testing.T) {
	for _, room := range []int{1, 2, 3, 100, api.MaxNet - 1, api.MaxNet} {
		n := empty(t, room)
		want(t, n, 0)
		wantNone(t, n, 0)
	}
	for _, room := range []int{math.MinInt, -api.MaxNet, -1, 0, api.MaxNet + 1, 1 << 32, math.MaxInt} {
		if n, errno := New(room); n != nil || errno != api.ErrRange {
			t.Errorf("New(%d) = %v, %d; want nil, ErrRange", room, n, errno)
		}
	}
}

// Promise 29.1: a network takes as many messages as it has room for, behind each other, and no more.
func TestPut(t *testing.T) {
	for _, room := range []int{1, 2, 7, api.MaxNet} {
		n := empty(t, room)
		var texts []string
		for i := range room {
			wantPut(t, n, fmt.Sprint(i), api.OK)
			texts = append(texts, fmt.Sprint(i))
			if i < 8 {
				want(t, n, 0, texts...)
			}
		}
		for lost := range 3 {
			want(t, n, lost, texts...)
			wantPut(t, n, "more", api.ErrFull)
		}
		want(t, n, 3, texts...)
		wantTake(t, n, 0, "0", api.OK)
		wantPut(t, n, "more", api.OK)
		wantPut(t, n, "more", api.ErrFull)
		want(t, n, 4, append(texts[1:], "more")...)
	}
}

// Promise 29.1: whatever bytes are a message, and come out as they were put in.
func TestTexts(t *testing.T) {
	texts := []string{"", "a", "a", "\x00", "\xff\xfe", "ä", strings.Repeat("y", api.MaxText+1), strings.Repeat("z", 1<<20)}
	n := of(t, texts...)
	want(t, n, 0, texts...)
	for _, text := range texts {
		wantTake(t, n, 0, text, api.OK)
	}
	want(t, n, 0)
}

// Promise 29.2: each message can be taken; the others stay in order.
func TestTake(t *testing.T) {
	for i, text := range []string{"a", "b", "c", "d"} {
		n := of(t, "a", "b", "c", "d")
		wantTake(t, n, i, text, api.OK)
		want(t, n, 0, slices.Delete([]string{"a", "b", "c", "d"}, i, i+1)...)
	}
	n := of(t, "a", "b", "c")
	wantTake(t, n, 1, "b", api.OK)
	wantTake(t, n, 1, "c", api.OK)
	wantNone(t, n, 1)
	wantTake(t, n, 0, "a", api.OK)
	wantNone(t, n, 0)
}

// Promise 29.2: each message can be lost, and is counted; the others stay in order.
func TestDrop(t *testing.T) {
	for i := range 4 {
		n := of(t, "a", "b", "c", "d")
		wantDrop(t, n, i, api.OK)
		want(t, n, 1, slices.Delete([]string{"a", "b", "c", "d"}, i, i+1)...)
	}
	n := of(t, "a", "b")
	wantDrop(t, n, 0, api.OK)
	wantNone(t, n, 1)
	wantDrop(t, n, 0, api.OK)
	wantNone(t, n, 0)
	want(t, n, 2)
}

// Promise 29.2: each message can be doubled; the copy goes behind all others, and is a message of its own.
func TestDouble(t *testing.T) {
	for i, text := range []string{"a", "b", "c"} {
		n := of(t, "a", "b", "c")
		wantDouble(t, n, i, api.OK)
		want(t, n, 0, "a", "b", "c", text)
		wantDouble(t, n, 3, api.OK)
		wantTake(t, n, i, text, api.OK)
		wantDrop(t, n, 2, api.OK)
		want(t, n, 1, append(slices.Delete([]string{"a", "b", "c"}, i, i+1), text)...)
	}
}

// Promise 29.2: where there is no room, a copy is lost, but not one of a message that is not there.
func TestDoubleFull(t *testing.T) {
	n := empty(t, 2)
	wantPut(t, n, "a", api.OK)
	wantPut(t, n, "b", api.OK)
	wantNone(t, n, 2)
	wantDouble(t, n, 0, api.ErrFull)
	wantDouble(t, n, 1, api.ErrFull)
	want(t, n, 2, "a", "b")
	wantTake(t, n, 0, "a", api.OK)
	wantDouble(t, n, 0, api.OK)
	want(t, n, 2, "b", "b")
}

// Promise 29.2: the numbers of messages.
func TestNumbers(t *testing.T) {
	wrong := []int{math.MinInt, -4, -3, -1, 3, 4, 256, 1 << 32, math.MaxInt}
	n := of(t, "a", "b", "c")
	for _, i := range wrong {
		wantNone(t, n, i)
	}
	for _, i := range []int{-1, 0, 1} {
		wantNone(t, empty(t, 5), i)
	}
}

// Promise 29.3: a change of what was answered changes no network, and no two texts lie in one memory.
func TestNewMemory(t *testing.T) {
	text := strings.Clone("a text")
	n := of(t, text)
	wantDouble(t, n, 0, api.OK)
	all, again := n.All(), n.All()
	texts := slices.Concat([]string{text}, all, again)
	clear(all)
	_ = append(again[:1], "other")
	want(t, n, 0, text, text)
	for n.Len() > 0 {
		taken, _ := n.Take(0)
		texts = append(texts, taken)
	}
	for i, s := range texts {
		for _, other := range texts[:i] {
			if unsafe.StringData(s) == unsafe.StringData(other) {
				t.Errorf("%q lies in the memory of another one", s)
			}
		}
	}
}

// Promise 29.3: networks do not share anything.
func TestApart(t *testing.T) {
	n, other := of(t, "a", "b"), of(t, "c")
	wantDrop(t, n, 0, api.OK)
	wantPut(t, other, "d", api.OK)
	want(t, n, 1, "b")
	want(t, other, 0, "c", "d")
}

// roam is a network with what is to be true of it.
type roam struct {
	source *rand.Rand
	net    *Net
	room   int
	texts  []string
	puts   int // messages that were put, and doubled
	taken  int
	lost   int
}

// put notes that a message is to be put, and tells how that is to end.
func (r *roam) put(text string) api.Errno {
	r.puts++
	if len(r.texts) == r.room {
		r.lost++
		return api.ErrFull
	}
	r.texts = append(r.texts, text)
	return api.OK
}

// remove notes that a message is to be taken out, and tells how that is to end.
func (r *roam) remove(i, taken int) (string, api.Errno) {
	if i >= len(r.texts) {
		return "", api.ErrNone
	}
	text := r.texts[i]
	r.texts = slices.Delete(slices.Clone(r.texts), i, i+1)
	r.taken += taken
	r.lost += 1 - taken
	return text, api.OK
}

// step does something.
func (r *roam) step(t *testing.T) {
	i, text := r.source.Intn(r.room+1), fmt.Sprint(r.puts)
	switch r.source.Intn(5) {
	case 0, 1:
		wantPut(t, r.net, text, r.put(text))
	case 2:
		text, errno := r.remove(i, 1)
		wantTake(t, r.net, i, text, errno)
	case 3:
		_, errno := r.remove(i, 0)
		wantDrop(t, r.net, i, errno)
	case 4:
		errno := api.ErrNone
		if i < len(r.texts) {
			errno = r.put(r.texts[i])
		}
		wantDouble(t, r.net, i, errno)
	}
	want(t, r.net, r.lost, r.texts...)
}

// Promise 29.4: whatever is done, each message is in the network, was taken, or is lost.
func TestRoam(t *testing.T) {
	for seed := range int64(10) {
		r := roam{source: rand.New(rand.NewSource(seed)), room: 1 + int(seed)}
		r.net = empty(t, r.room)
		for range 500 {
			r.step(t)
			if r.puts != r.net.Len()+r.taken+r.net.Lost() {
				t.Fatalf("%d were put; there are %d, %d were taken, %d are lost", r.puts, r.net.Len(), r.taken, r.net.Lost())
			}
		}
		if r.taken < 20 || r.lost < 50 {
			t.Errorf("only %d were taken, and %d lost", r.taken, r.lost)
		}
	}
}

// A network that New did not make has no room.
func TestNoNet(t *testing.T) {
	for _, n := range []*Net{nil, {}} {
		for _, i := range []int{-1, 0, 1} {
			wantNone(t, n, i)
		}
		wantPut(t, n, "a", api.ErrFull)
		wantNone(t, n, 0)
	}
	want(t, nil, 0)
}
