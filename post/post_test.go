package post

import (
	"fmt"
	"math"
	"math/rand"
	"slices"
	"strings"
	"testing"
	"unsafe"

	"palaver/api"
)

// box is a new box.
func box(t *testing.T, room int, gap int64) *Post {
	t.Helper()
	p, errno := New(room, gap)
	if p == nil || errno != api.OK {
		t.Fatalf("New(%d, %d) = %v, %d; want OK", room, gap, p, errno)
	}
	return p
}

// full is the box of the chapter's examples.
func full(t *testing.T) *Post {
	t.Helper()
	p := box(t, 2, 5)
	wantPut(t, p, 1, "x", 1)
	wantPut(t, p, 2, "y", 2)
	return p
}

// wantPut fails a test unless a mail is put in and has this number.
func wantPut(t *testing.T, p *Post, to int, text string, want int) {
	t.Helper()
	if id, errno := p.Put(to, text); id != want || errno != api.OK {
		t.Fatalf("Put(%d, %.20q) = %d, %d; want %d, OK", to, text, id, errno, want)
	}
}

// wantNoPut fails a test unless a mail is refused, and the box remains as it was.
func wantNoPut(t *testing.T, p *Post, to int, text string, want api.Errno) {
	t.Helper()
	was, lost := p.All(), p.Lost()
	if want == api.ErrFull {
		lost++
	}
	if id, errno := p.Put(to, text); id != 0 || errno != want {
		t.Errorf("Put(%d, %.20q) = %d, %d; want 0, %d", to, text, id, errno, want)
	}
	wantAll(t, p, was...)
	if p.Lost() != lost {
		t.Errorf("after Put(%d, %.20q) = %d, Lost is %d; want %d", to, text, want, p.Lost(), lost)
	}
}

// wantAll fails a test unless these are the mails of a box, in order.
func wantAll(t *testing.T, p *Post, want ...api.Mail) {
	t.Helper()
	if got := p.All(); !slices.Equal(got, want) {
		t.Errorf("All = %.200v; want %.200v", got, want)
	}
}

// wantDue fails a test unless the mails with these numbers are due, and the box remains as it was.
func wantDue(t *testing.T, p *Post, now int64, want ...int) {
	t.Helper()
	was := p.All()
	got := p.Due(now)
	if ids := numbers(got); !slices.Equal(ids, want) {
		t.Errorf("Due(%d) = %v; want %v", now, ids, want)
	}
	for _, m := range got {
		if !slices.Contains(was, m) {
			t.Errorf("Due(%d) has %.80v, which is not in the box", now, m)
		}
	}
	wantAll(t, p, was...)
}

// numbers are the numbers of mails.
func numbers(mails []api.Mail) []int {
	ids := []int{}
	for _, m := range mails {
		ids = append(ids, m.Id)
	}
	return ids
}

// wantDone fails a test unless Done answers this.
func wantDone(t *testing.T, p *Post, id int, want api.Errno) {
	t.Helper()
	if errno := p.Done(id); errno != want {
		t.Errorf("Done(%d) = %d; want %d", id, errno, want)
	}
}

// wantClear fails a test unless Clear removes so many mails.
func wantClear(t *testing.T, p *Post, want int) {
	t.Helper()
	if got := p.Clear(); got != want {
		t.Errorf("Clear = %d; want %d", got, want)
	}
	wantAll(t, p)
}

// Promises 23.1 and 23.2: the chapter's examples.
func TestExamples(t *testing.T) {
	if p, errno := New(0, 5); p != nil || errno != api.ErrRange {
		t.Errorf("New(0, 5) = %v, %d", p, errno)
	}
	p := full(t)
	wantNoPut(t, p, 3, "z", api.ErrFull)
	wantNoPut(t, p, -1, "z", api.ErrRange)
	wantAll(t, p, api.Mail{Id: 1, To: 1, Text: "x"}, api.Mail{Id: 2, To: 2, Text: "y"})
	if p.Lost() != 1 {
		t.Errorf("Lost = %d; want 1", p.Lost())
	}
	wantDue(t, p, 0, 1, 2)
	wantDue(t, p, 4)
	wantDue(t, p, 5, 1, 2)
	wantDone(t, p, 1, api.OK)
	wantDone(t, p, 1, api.ErrNone)
	wantClear(t, p, 1)
}

// Promise 23.1.
func TestNew(t *testing.T) {
	for _, room := range []int{1, 2, api.MaxBox - 1, api.MaxBox} {
		for _, gap := range []int64{1, 2, api.MaxTime - 1, api.MaxTime} {
			p := box(t, room, gap)
			wantAll(t, p)
			wantDue(t, p, 0)
			wantClear(t, p, 0)
			if p.Lost() != 0 {
				t.Errorf("a new box has lost %d", p.Lost())
			}
		}
	}
	wrong := func(room int, gap int64) {
		if p, errno := New(room, gap); p != nil || errno != api.ErrRange {
			t.Errorf("New(%d, %d) = %v, %d; want nil, ErrRange", room, gap, p, errno)
		}
	}
	for _, room := range []int{math.MinInt, -1, 0, api.MaxBox + 1, 1 << 32, math.MaxInt} {
		wrong(room, 5)
		wrong(room, 0)
	}
	for _, gap := range []int64{math.MinInt64, -1, 0, api.MaxTime + 1, math.MaxInt64} {
		wrong(2, gap)
	}
}

// Promise 23.1: a box takes as many mails as it has room for, and no more.
func TestRoom(t *testing.T) {
	for _, room := range []int{1, 2, 7, api.MaxBox} {
		p := box(t, room, 1)
		var want []api.Mail
		for i := range room {
			m := api.Mail{Id: i + 1, To: i % (api.MaxServer + 1), Text: fmt.Sprint(i)}
			wantPut(t, p, m.To, m.Text, m.Id)
			want = append(want, m)
			wantAll(t, p, want...)
		}
		for range 3 {
			wantNoPut(t, p, 0, "", api.ErrFull)
		}
		if p.Lost() != 3 {
			t.Errorf("Lost = %d; want 3", p.Lost())
		}
		wantClear(t, p, room)
		wantPut(t, p, 0, "", room+1)
	}
}

// Promise 23.1: to whom a mail may go; whom there is not is told ahead of a full box, and nothing is lost by it.
func TestTo(t *testing.T) {
	wrong := []int{math.MinInt, -2, -1, api.MaxServer + 1, api.MaxServer + 2, 1 << 32, math.MaxInt}
	p := box(t, 4, 5)
	for i, to := range []int{0, 1, api.MaxServer - 1, api.MaxServer} {
		for _, to := range wrong {
			wantNoPut(t, p, to, "x", api.ErrRange)
		}
		wantPut(t, p, to, "x", i+1)
	}
	for _, to := range wrong {
		wantNoPut(t, p, to, "x", api.ErrRange)
	}
	if p.Lost() != 0 {
		t.Errorf("Lost = %d; want 0", p.Lost())
	}
}

// Promise 23.1: a mail's text is whatever bytes, and comes back as it was put in.
func TestTexts(t *testing.T) {
	texts := []string{"", "x", "x", "\x00", "\xff\xfe", "ä", strings.Repeat("y", api.MaxText+1), strings.Repeat("z", 1<<20)}
	p := box(t, len(texts), 5)
	var want []api.Mail
	for i, text := range texts {
		wantPut(t, p, i, text, i+1)
		want = append(want, api.Mail{Id: i + 1, To: i, Text: text})
	}
	wantAll(t, p, want...)
	if got := p.Due(0); !slices.Equal(got, want) {
		t.Errorf("Due = %.200v", got)
	}
}

// Promise 23.1: numbers go on behind mails that are removed, and refused mails have none.
func TestNumbers(t *testing.T) {
	p := full(t)
	wantNoPut(t, p, 3, "z", api.ErrFull)
	wantNoPut(t, p, 64, "z", api.ErrRange)
	wantDone(t, p, 2, api.OK)
	wantPut(t, p, 3, "z", 3)
	wantAll(t, p, api.Mail{Id: 1, To: 1, Text: "x"}, api.Mail{Id: 3, To: 3, Text: "z"})
	wantClear(t, p, 2)
	wantPut(t, p, 4, "x", 4)
	wantDone(t, p, 4, api.OK)
	wantPut(t, p, 5, "x", 5)
	if p.Lost() != 1 {
		t.Errorf("Lost = %d; want 1: what is removed is not lost", p.Lost())
	}
	// Another box has its own.
	wantPut(t, box(t, 2, 5), 1, "x", 1)
}

// Promise 23.2: after the gap and no earlier, each mail by its own time.
func TestGap(t *testing.T) {
	for _, gap := range []int64{2, 5, 1 << 33, api.MaxTime - 9} {
		p := box(t, 3, gap)
		wantPut(t, p, 1, "x", 1)
		wantDue(t, p, 3, 1)
		wantDue(t, p, 3)
		wantPut(t, p, 2, "y", 2)
		wantDue(t, p, 3, 2)
		wantDue(t, p, 3+gap-1)
		wantDone(t, p, 2, api.OK)
		wantPut(t, p, 2, "z", 3)
		wantDue(t, p, 3+gap-1, 3)
		wantDue(t, p, 3+gap, 1)
		wantDue(t, p, 3+gap)
	}
	p := box(t, 1, 1)
	wantPut(t, p, 1, "x", 1)
	for now := range int64(5) {
		wantDue(t, p, now, 1)
		wantDue(t, p, now)
	}
}

// Promise 23.2: a question that is answered by nothing does not count as one that is answered.
func TestAsking(t *testing.T) {
	p := full(t)
	wantDue(t, p, 10, 1, 2)
	for now := int64(10); now < 15; now++ {
		wantDue(t, p, now)
	}
	wantDue(t, p, 15, 1, 2)
	wantDue(t, p, 19)
	wantDue(t, p, 1000, 1, 2)
	wantDue(t, p, 1004)
	wantDue(t, p, 1005, 1, 2)
}

// Promise 23.2: a mail that was sent later than now is due, and was sent now.
func TestClockGoesBack(t *testing.T) {
	p := full(t)
	wantDue(t, p, 10, 1, 2)
	wantDue(t, p, 9, 1, 2)
	wantDue(t, p, 9)
	wantDue(t, p, 13)
	wantDue(t, p, 14, 1, 2)
	wantDue(t, p, 0, 1, 2)
	wantDue(t, p, 0)
	wantDue(t, p, 4)
	wantDone(t, p, 1, api.OK)
	wantPut(t, p, 1, "x", 3)
	wantDue(t, p, 4, 3)
	// Only the third one was sent later than 3; the second one's gap has passed at 5.
	wantDue(t, p, 3, 3)
	wantDue(t, p, 5, 2)
}

// Promise 23.2: the times that there are.
func TestTimes(t *testing.T) {
	wrong := []int64{math.MinInt64, math.MinInt64 + 1, -api.MaxTime, -1, api.MaxTime + 1, 2 * api.MaxTime, math.MaxInt64}
	p := box(t, 2, api.MaxTime)
	wantPut(t, p, 1, "x", 1)
	for _, now := range wrong {
		wantDue(t, p, now)
	}
	wantDue(t, p, 0, 1)
	for _, now := range wrong {
		wantDue(t, p, now)
	}
	wantDue(t, p, api.MaxTime-1)
	wantDue(t, p, api.MaxTime, 1)
	for _, now := range wrong {
		wantDue(t, p, now)
	}
	wantDue(t, p, api.MaxTime)
	wantDue(t, p, api.MaxTime-1, 1)
}

// Promise 23.2: which numbers there are, in a box whose mails were sent or not.
func TestDone(t *testing.T) {
	for _, sent := range []bool{false, true} {
		p := box(t, 5, 5)
		var want []api.Mail
		for i := range 5 {
			wantPut(t, p, i, "x", i+1)
			want = append(want, api.Mail{Id: i + 1, To: i, Text: "x"})
		}
		if sent {
			wantDue(t, p, 0, 1, 2, 3, 4, 5)
		}
		for _, id := range []int{math.MinInt, -1, 0, 6, 7, 256, 1 << 32, math.MaxInt} {
			wantDone(t, p, id, api.ErrNone)
		}
		wantAll(t, p, want...)
		for _, id := range []int{3, 1, 5, 2, 4} {
			wantDone(t, p, id, api.OK)
			wantDone(t, p, id, api.ErrNone)
			want = slices.DeleteFunc(want, func(m api.Mail) bool { return m.Id == id })
			wantAll(t, p, want...)
		}
		wantDue(t, p, 100)
	}
}

// Promise 23.2: whatever is removed leaves the times of the others as they were.
func TestTimesStay(t *testing.T) {
	p := box(t, 4, 5)
	for i := range 4 {
		wantPut(t, p, i, "x", i+1)
		wantDue(t, p, int64(i), i+1)
	}
	wantDone(t, p, 2, api.OK)
	wantDone(t, p, 9, api.ErrNone)
	wantDue(t, p, 4)
	wantDue(t, p, 5, 1)
	wantDue(t, p, 6)
	wantDue(t, p, 7, 3)
	wantDue(t, p, 8, 4)
	wantDue(t, p, 10, 1)
}

// Promise 23.2: what is put in behind a Clear is new.
func TestClear(t *testing.T) {
	p := full(t)
	wantDue(t, p, 3, 1, 2)
	wantClear(t, p, 2)
	wantClear(t, p, 0)
	wantDue(t, p, 100)
	wantDone(t, p, 1, api.ErrNone)
	wantPut(t, p, 1, "x", 3)
	wantDue(t, p, 3, 3)
	wantDue(t, p, 4)
	wantClear(t, p, 1)
}

// Promises 23.1 and 23.2: a box that New did not make has no room.
func TestNoBox(t *testing.T) {
	for _, p := range []*Post{nil, {}} {
		if id, errno := p.Put(-1, "x"); id != 0 || errno != api.ErrRange {
			t.Errorf("Put = %d, %d; want ErrRange", id, errno)
		}
		if id, errno := p.Put(1, "x"); id != 0 || errno != api.ErrFull {
			t.Errorf("Put = %d, %d; want ErrFull", id, errno)
		}
		wantDone(t, p, 0, api.ErrNone)
		wantDone(t, p, 1, api.ErrNone)
		wantDue(t, p, 0)
		wantClear(t, p, 0)
	}
	if lost := (*Post)(nil).Lost(); lost != 0 {
		t.Errorf("no box has lost %d", lost)
	}
}

// Promise 23.3.
func TestNewMemory(t *testing.T) {
	p := box(t, 2, 1)
	text := strings.Clone("a text")
	wantPut(t, p, 1, text, 1)
	wantPut(t, p, 2, text, 2)
	want := []api.Mail{{Id: 1, To: 1, Text: "a text"}, {Id: 2, To: 2, Text: "a text"}}
	lists := [][]api.Mail{p.All(), p.All(), p.Due(0), p.Due(1)}
	texts := []string{text}
	for _, l := range lists {
		if !slices.Equal(l, want) {
			t.Fatalf("%v; want %v", l, want)
		}
		for i := range l {
			texts = append(texts, l[i].Text)
			l[i] = api.Mail{Id: 9}
		}
		_ = append(l, api.Mail{Id: 9})
		wantAll(t, p, want...)
	}
	for l := range p.letters.each() {
		texts = append(texts, l.Text)
	}
	for i, s := range texts {
		for _, other := range texts[:i] {
			apart(t, s, other)
		}
	}
	wantDue(t, p, 2, 1, 2)
}

// apart fails a test if two strings share memory.
func apart(t *testing.T, s, other string) {
	t.Helper()
	from := uintptr(unsafe.Pointer(unsafe.StringData(s)))
	at := uintptr(unsafe.Pointer(unsafe.StringData(other)))
	if from < at+uintptr(len(other)) && at < from+uintptr(len(s)) {
		t.Errorf("%q and %q share memory", s, other)
	}
}

// Promise 23.3: whoever stops half-way leaves the box in its order.
func TestStop(t *testing.T) {
	for stop := range 5 {
		p := box(t, 5, 1)
		for i := range 4 {
			wantPut(t, p, i, "x", i+1)
		}
		was, many := p.All(), 0
		for range p.letters.each() {
			if many == stop {
				break
			}
			many++
		}
		if many != min(stop, 4) {
			t.Errorf("%d letters, though stopped at %d", many, stop)
		}
		wantAll(t, p, was...)
	}
}

// model is a box as the chapter tells it, in a list.
type model struct {
	room      int
	gap       int64
	mails     []api.Mail
	returned  map[int]int64 // by number: when last
	put, lost int
}

// due are the mails that are due.
func (m *model) due(now int64) []api.Mail {
	if now < 0 || now > api.MaxTime {
		return nil
	}
	var l []api.Mail
	for _, mail := range m.mails {
		at, was := m.returned[mail.Id]
		if !was || at <= now-m.gap || at > now {
			m.returned[mail.Id] = now
			l = append(l, mail)
		}
	}
	return l
}

// Promise 23.4: what random calls do to a box and to its model; what was put in is there, or was removed, or is counted as lost.
func TestTillItIsDone(t *testing.T) {
	source := rand.New(rand.NewSource(1))
	for range 300 {
		m := &model{room: 1 + source.Intn(9), gap: 1 + source.Int63n(6), returned: map[int]int64{}}
		p := box(t, m.room, m.gap)
		removed, tried := 0, 0
		for now := int64(0); now < 200; now += source.Int63n(4) - 1 {
			switch source.Intn(8) {
			case 0, 1, 2:
				tried++
				to, text := source.Intn(64), fmt.Sprint(now)
				if len(m.mails) == m.room {
					m.lost++
					wantNoPut(t, p, to, text, api.ErrFull)
					break
				}
				m.put++
				m.mails = append(m.mails, api.Mail{Id: m.put, To: to, Text: text})
				wantPut(t, p, to, text, m.put)
			case 3, 4, 5:
				if got, want := p.Due(now), m.due(now); !slices.Equal(got, want) {
					t.Fatalf("Due(%d) = %v; want %v", now, got, want)
				}
			case 6:
				id := source.Intn(m.put + 2)
				at := slices.IndexFunc(m.mails, func(mail api.Mail) bool { return mail.Id == id })
				if at < 0 {
					wantDone(t, p, id, api.ErrNone)
					break
				}
				removed++
				m.mails = slices.Delete(m.mails, at, at+1)
				wantDone(t, p, id, api.OK)
			case 7:
				if source.Intn(5) == 0 {
					removed += len(m.mails)
					wantClear(t, p, len(m.mails))
					m.mails = nil
				}
			}
			wantAll(t, p, m.mails...)
			if p.Lost() != m.lost || len(p.All())+removed+p.Lost() != tried {
				t.Fatalf("Lost = %d; want %d", p.Lost(), m.lost)
			}
		}
	}
}

// Promise 23.4: the first Due behind a Put has the mail, whenever that is, and again whenever the gap has passed.
func TestFirstDue(t *testing.T) {
	for _, now := range []int64{0, 1, 4, 5, 6, 1000, api.MaxTime - 5} {
		p := box(t, 3, 5)
		wantPut(t, p, 1, "x", 1)
		wantDue(t, p, 3, 1)
		wantPut(t, p, 2, "y", 2)
		if got := numbers(p.Due(now)); !slices.Contains(got, 2) {
			t.Errorf("Due(%d) = %v; want the second mail, too", now, got)
		}
		if got := numbers(p.Due(now + 5)); !slices.Contains(got, 2) {
			t.Errorf("Due(%d) = %v; want the second mail again", now+5, got)
		}
	}
}
