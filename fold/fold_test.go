package fold

import (
	"fmt"
	"math"
	"math/rand"
	"slices"
	"sort"
	"strconv"
	"strings"
	"testing"
	"unsafe"

	"palaver/api"
	"palaver/auth"
	"palaver/state"
)

// The chapter's users.
const (
	ann = "@ann:0"
	bob = "@bob:1"
)

// of is an event of the chapter's room.
func of(kind api.EventKind, sender, key, body string) api.Event {
	return api.Event{Room: "!hall:0", Sender: sender, Kind: kind, Key: key, Body: body}
}

// The chapter's events, and some more.
var (
	a       = of(api.EventCreate, ann, "", "")
	b       = of(api.EventMember, ann, ann, "join")
	h       = of(api.EventHandover, ann, "", "2")
	message = of(api.EventMessage, ann, "", "hi")
	redact  = of(api.EventRedact, ann, "", "hi")
	name    = of(api.EventName, ann, "", "The hall")
	public  = of(api.EventRule, ann, "", "public")
	power   = of(api.EventPower, ann, "", "0 50 0 50 50 50 @ann:0 100")
	bobs    = of(api.EventMember, bob, bob, "join")
)

// cells are the cells of events, in the order of states.
func cells(events ...api.Event) []api.Cell {
	var s []api.Cell
	for _, e := range events {
		s = append(s, api.Cell{Kind: e.Kind, Key: e.Key, Event: e})
	}
	sort.SliceStable(s, func(i, j int) bool {
		return s[i].Kind < s[j].Kind || s[i].Kind == s[j].Kind && s[i].Key < s[j].Key
	})
	return s
}

// crowd are the events that make a room public with so many members, beside @ann:0.
func crowd(many int) []api.Event {
	l := []api.Event{a, b, public}
	for i := range many {
		user := fmt.Sprintf("@u%03d:%d", i, i%64)
		l = append(l, of(api.EventMember, user, user, "join"))
	}
	return l
}

// same tells whether rooms are alike.
func same(r, s api.Room) bool {
	return slices.Equal(r.State, s.State) && r.Hub == s.Hub && r.Epoch == s.Epoch && r.Len == s.Len
}

// told is a room in few words.
func told(r api.Room) string {
	var b strings.Builder
	for _, c := range r.State[:min(len(r.State), 8)] {
		fmt.Fprintf(&b, "[%d %.20q: %d %.20q %.60q]", c.Kind, c.Key, c.Event.Kind, c.Event.Key, c.Event.Body)
	}
	return fmt.Sprintf("{%s (%d cells), Hub %d, Epoch %d, Len %d}", b.String(), len(r.State), r.Hub, r.Epoch, r.Len)
}

// wantCheck fails a test unless Check answers this.
func wantCheck(t *testing.T, r api.Room, want api.Errno) {
	t.Helper()
	if errno := Check(r); errno != want {
		t.Errorf("Check(%s) = %d; want %d", told(r), errno, want)
	}
}

// wantNext fails a test unless Next answers this.
func wantNext(t *testing.T, r api.Room, e api.Event, want api.Room, wantErrno api.Errno) {
	t.Helper()
	if got, errno := Next(r, e); !same(got, want) || errno != wantErrno {
		t.Errorf("Next(%s, %.200q) = %s, %d; want %s, %d", told(r), fmt.Sprint(e), told(got), errno, told(want), wantErrno)
	}
}

// wantRun fails a test unless Run answers this.
func wantRun(t *testing.T, l []api.Event, want api.Room, wantMany int, wantErrno api.Errno) {
	t.Helper()
	if got, many, errno := Run(l...); !same(got, want) || many != wantMany || errno != wantErrno {
		t.Errorf("Run of %d events = %s, %d, %d; want %s, %d, %d", len(l), told(got), many, errno, told(want), wantMany, wantErrno)
	}
}

// ran is the room that events, all of which are permitted, result in.
func ran(t *testing.T, l ...api.Event) api.Room {
	t.Helper()
	r, many, errno := Run(l...)
	if many != len(l) || errno != api.OK {
		t.Fatalf("Run of %d events = %d, %d", len(l), many, errno)
	}
	return r
}

// wantUsers fails a test unless Joined and Servers answer this.
func wantUsers(t *testing.T, r api.Room, joined []string, servers []int) {
	t.Helper()
	if got := Joined(r); !slices.Equal(got, joined) {
		t.Errorf("Joined(%s) = %.300q; want %.300q", told(r), got, joined)
	}
	if got := Servers(r); !slices.Equal(got, servers) {
		t.Errorf("Servers(%s) = %v; want %v", told(r), got, servers)
	}
}

// Promises 18.1 and 18.2: the chapter's examples.
func TestExamples(t *testing.T) {
	wantNext(t, api.Room{Len: -1}, a, api.Room{}, api.ErrForm)
	r := api.Room{State: cells(a, b, h), Hub: 2, Epoch: 1, Len: 3}
	wantRun(t, []api.Event{a, b, h}, r, 3, api.OK)
	wantRun(t, []api.Event{a, h}, api.Room{State: cells(a), Len: 1}, 1, api.ErrAuth)
	wantUsers(t, r, []string{ann}, []int{0})
}

// wrongRooms are rooms that are not valid, each by one thing.
func wrongRooms() []api.Room {
	s := cells(a, b)
	joins := cells(crowd(api.MaxCells - 2)...)
	return []api.Room{
		{Len: -1},
		{Len: math.MinInt},
		{Len: math.MinInt, Epoch: math.MinInt},
		{Len: -1, Epoch: -1},
		{State: s, Len: api.MaxEvents + 1},
		{State: s, Len: math.MaxInt},
		{State: s, Len: 2, Hub: -1},
		{State: s, Len: 2, Hub: 64},
		{State: s, Len: 2, Hub: math.MaxInt},
		{State: s, Len: 2, Hub: math.MinInt},
		{State: s, Len: 2, Epoch: -1},
		{State: s, Len: 2, Epoch: 3},
		{Epoch: 1},
		{State: s, Len: api.MaxEvents, Epoch: api.MaxEvents + 1},
		{State: s, Len: 2, Epoch: math.MinInt},
		{State: []api.Cell{{}}, Len: 1},
		{State: cells(a, a), Len: 2},
		{State: []api.Cell{s[1], s[0]}, Len: 2},
		{State: cells(a, b, message), Len: 3},
		{State: joins, Len: api.MaxEvents},
	}
}

// Promise 18.1.
func TestCheck(t *testing.T) {
	s := cells(a, b)
	for _, r := range []api.Room{
		{},
		{State: []api.Cell{}},
		{State: s},
		{State: s, Len: 2, Hub: 63},
		{State: s, Len: api.MaxEvents},
		{State: s, Len: 1, Epoch: 1},
		{Len: api.MaxEvents, Epoch: api.MaxEvents, Hub: 63},
		{State: cells(name), Len: 5, Epoch: 4, Hub: 7},
		{State: cells(crowd(api.MaxCells - 3)...), Len: 1},
	} {
		wantCheck(t, r, api.OK)
	}
	for _, r := range wrongRooms() {
		wantCheck(t, r, api.ErrForm)
	}
}

// Promise 18.1: what each kind of events makes of a room.
func TestNext(t *testing.T) {
	r := api.Room{State: cells(a, b), Hub: 5, Epoch: 3, Len: 9}
	after := func(hub, epoch int, events ...api.Event) api.Room {
		return api.Room{State: cells(append([]api.Event{a}, events...)...), Hub: hub, Epoch: epoch, Len: 10}
	}
	for _, e := range []api.Event{public, name, power, of(api.EventMember, ann, bob, "invite")} {
		wantNext(t, r, e, after(5, 3, b, e), api.OK)
	}
	for _, e := range []api.Event{message, redact} {
		wantNext(t, r, e, after(5, 3, b), api.OK)
	}
	for server := range 64 {
		over := of(api.EventHandover, ann, "", strconv.Itoa(server))
		wantNext(t, r, over, after(server, 4, b, over), api.OK)
	}
	leave := of(api.EventMember, ann, ann, "leave")
	wantNext(t, r, leave, after(5, 3, leave), api.OK)
	other := name
	other.Body = "Another hall"
	wantNext(t, ran(t, a, b, name, h), other, api.Room{State: cells(a, b, other, h), Hub: 2, Epoch: 1, Len: 5}, api.OK)
}

// Promise 18.1: the hub of a room that is made is the room's server.
func TestCreate(t *testing.T) {
	for server := range 64 {
		e := api.Event{Room: fmt.Sprintf("!hall:%d", server), Sender: fmt.Sprintf("@ann:%d", server), Kind: api.EventCreate, Body: "7"}
		wantNext(t, api.Room{}, e, api.Room{State: cells(e), Hub: server, Len: 1}, api.OK)
		wantNext(t, api.Room{Hub: 9, Epoch: 2, Len: 4}, e, api.Room{State: cells(e), Hub: server, Epoch: 2, Len: 5}, api.OK)
		wantRun(t, []api.Event{e}, api.Room{State: cells(e), Hub: server, Len: 1}, 1, api.OK)
	}
}

// refused are events that the rules refuse in a room of @ann:0 alone, with the errors.
func refused() map[api.Event]api.Errno {
	return map[api.Event]api.Errno{
		{}:                                     api.ErrForm,
		a:                                      api.ErrAuth,
		of(api.EventCreate, bob, "", ""):       api.ErrAuth,
		of(api.EventMessage, bob, "", "hi"):    api.ErrAuth,
		bobs:                                   api.ErrAuth,
		of(api.EventMember, ann, bob, "third"): api.ErrForm,
		of(api.EventHandover, ann, "", "64"):   api.ErrForm,
		of(api.EventHandover, bob, "", "1"):    api.ErrAuth,
		of(api.EventRule, ann, "", "join"):     api.ErrForm,
		of(api.EventPower, ann, "", "x"):       api.ErrForm,
		of(api.EventName, ann, "x", ""):        api.ErrForm,
		of(api.EventName, ann, "", strings.Repeat("x", 513)):                     api.ErrForm,
		{Room: "!other:0", Sender: ann, Kind: api.EventName}:                     api.ErrAuth,
		{Room: "!hall:0", Sender: ann, Kind: api.EventMessage, Nonce: 1<<40 + 1}: api.ErrForm,
	}
}

// Promise 18.1: a room that is not valid is refused ahead of all else, with a zero room; any other one comes back as it was.
func TestNextErrors(t *testing.T) {
	for _, r := range wrongRooms() {
		for _, e := range []api.Event{a, b, message, name, h, {}} {
			wantNext(t, r, e, api.Room{}, api.ErrForm)
			if got, _ := Next(r, e); got.State != nil {
				t.Errorf("Next(%s, ..) answers a state", told(r))
			}
		}
	}
	for e, errno := range refused() {
		for _, r := range []api.Room{{State: cells(a, b), Hub: 5, Epoch: 3, Len: 9}, {State: cells(a, b), Hub: 5, Epoch: 3, Len: api.MaxEvents}, {State: cells(a, b, name, h), Len: 4}} {
			wantNext(t, r, e, r, errno)
		}
	}
	for _, e := range []api.Event{b, message, name, h} {
		wantNext(t, api.Room{}, e, api.Room{}, api.ErrAuth)
		wantNext(t, api.Room{Hub: 1, Epoch: 1, Len: 1}, e, api.Room{Hub: 1, Epoch: 1, Len: 1}, api.ErrAuth)
	}
}

// Promise 18.1: a room of MaxEvents events takes no more, and one event fewer is room for one.
func TestFull(t *testing.T) {
	for _, e := range []api.Event{message, redact, name, h, b, public} {
		r := api.Room{State: cells(a, b), Hub: 5, Epoch: 3, Len: api.MaxEvents}
		wantNext(t, r, e, r, api.ErrFull)
		r.Len--
		if got, errno := Next(r, e); errno != api.OK || got.Len != api.MaxEvents {
			t.Errorf("Next of the last event = %s, %d", told(got), errno)
		}
	}
	r := api.Room{Hub: 5, Epoch: 3, Len: api.MaxEvents}
	wantNext(t, r, a, r, api.ErrFull)
}

// Promise 18.1: a state of MaxCells cells takes no more, but for what replaces a cell, and for what changes no state.
func TestFullState(t *testing.T) {
	l := crowd(api.MaxCells - 3)
	r := ran(t, l...)
	if len(r.State) != api.MaxCells || r.Len != api.MaxCells {
		t.Fatalf("the crowd is %s", told(r))
	}
	for _, e := range []api.Event{bobs, name, h, power} {
		wantNext(t, r, e, r, api.ErrFull)
		wantRun(t, append(slices.Clone(l), e, message), r, len(l), api.ErrFull)
	}
	for _, e := range []api.Event{message, redact} {
		after := r
		after.Len++
		wantNext(t, r, e, after, api.OK)
	}
	u := of(api.EventMember, ann, "@u007:7", "ban")
	after := api.Room{State: slices.Clone(r.State), Len: r.Len + 1}
	at := slices.IndexFunc(after.State, func(c api.Cell) bool { return c.Key == "@u007:7" })
	after.State[at].Event = u
	wantNext(t, r, u, after, api.OK)
}

// Promise 18.2: lists of events that are all permitted.
func TestRun(t *testing.T) {
	wantRun(t, nil, api.Room{}, 0, api.OK)
	wantRun(t, []api.Event{}, api.Room{}, 0, api.OK)
	wantRun(t, []api.Event{a}, api.Room{State: cells(a), Len: 1}, 1, api.OK)
	back := of(api.EventHandover, ann, "", "0")
	wantRun(t, []api.Event{a, b, h, message, back, name, redact, h}, api.Room{State: cells(a, b, h, name), Hub: 2, Epoch: 3, Len: 8}, 8, api.OK)
	l := []api.Event{a, b}
	for len(l) < api.MaxEvents {
		l = append(l, message)
	}
	r := api.Room{State: cells(a, b), Len: api.MaxEvents}
	wantRun(t, l, r, api.MaxEvents, api.OK)
	wantRun(t, append(l, message), r, api.MaxEvents, api.ErrFull)
	wantRun(t, append(l, message, name), r, api.MaxEvents, api.ErrFull)
	wantRun(t, append(l, of(api.EventMessage, bob, "", "hi")), r, api.MaxEvents, api.ErrAuth)
}

// Promise 18.2: the first event that is refused, and all behind it, change nothing.
func TestRunErrors(t *testing.T) {
	for e, errno := range refused() {
		wantRun(t, []api.Event{a, b, e}, api.Room{State: cells(a, b), Len: 2}, 2, errno)
		wantRun(t, []api.Event{a, b, h, message, e, name, e}, api.Room{State: cells(a, b, h), Hub: 2, Epoch: 1, Len: 4}, 4, errno)
	}
	for _, e := range []api.Event{b, h, message, name, of(api.EventCreate, bob, "", "")} {
		wantRun(t, []api.Event{e, a}, api.Room{}, 0, api.ErrAuth)
	}
	wantRun(t, []api.Event{{}, a}, api.Room{}, 0, api.ErrForm)
	wantRun(t, []api.Event{a, a}, api.Room{State: cells(a), Len: 1}, 1, api.ErrAuth)
}

// memberships is a state of users with these bodies, in this order.
func memberships(pairs ...string) []api.Cell {
	var s []api.Cell
	for pair := range slices.Chunk(pairs, 2) {
		s = append(s, api.Cell{Kind: api.EventMember, Key: pair[0], Event: of(api.EventMember, ann, pair[0], pair[1])})
	}
	return s
}

// Promise 18.2: who joined, and their servers, also in rooms that are not valid.
func TestUsers(t *testing.T) {
	for _, c := range []struct {
		state   []api.Cell
		joined  []string
		servers []int
	}{
		{nil, nil, nil},
		{[]api.Cell{{}}, nil, nil},
		{cells(a, name, public, h), nil, nil},
		{memberships("@a:9", "join", "@b:3", "join", "@c:9", "join", "@d:10", "join", "@e:3", "join"), []string{"@a:9", "@b:3", "@c:9", "@d:10", "@e:3"}, []int{3, 9, 10}},
		{memberships("@a:1", "leave", "@b:2", "ban", "@c:3", "invite", "@d:4", "knock", "@e:5", "", "@f:6", "Join", "@g:7", "join ", "@h:8", "joi", "@i:63", "join"), []string{"@i:63"}, []int{63}},
		{memberships("@b:2", "join", "@a:1", "join", "@b:2", "join"), []string{"@b:2", "@a:1", "@b:2"}, []int{1, 2}},
		{memberships("", "join", "bob:1", "join", "!hall:2", "join", "@a:64", "join", "@a:05", "join", "@a:5", "join"), []string{"", "bob:1", "!hall:2", "@a:64", "@a:05", "@a:5"}, []int{5}},
		{append(cells(of(api.EventName, ann, "", "join"), of(api.EventCreate, ann, "", "join"), of(api.EventRule, ann, "", "join")), memberships("@a:7", "join")...), []string{"@a:7"}, []int{7}},
	} {
		for _, r := range []api.Room{{State: c.state}, {State: c.state, Hub: 64, Epoch: -1, Len: -5}} {
			wantUsers(t, r, c.joined, c.servers)
		}
	}
	r := ran(t, crowd(200)...)
	var joined []string
	for _, c := range r.State[1 : len(r.State)-1] {
		joined = append(joined, c.Key)
	}
	servers := make([]int, 64)
	for i := range servers {
		servers[i] = i
	}
	wantUsers(t, r, joined, servers)
	wantUsers(t, ran(t, a, b, public, bobs, of(api.EventMember, ann, ann, "leave")), []string{bob}, []int{1})
}

// Promise 18.3: a change of what a call answers changes neither its argument nor what comes next.
func TestNewMemory(t *testing.T) {
	for _, e := range []api.Event{message, name, b, h, bobs, {}} {
		s := make([]api.Cell, 2, 8)
		copy(s, cells(a, b))
		r := api.Room{State: s, Len: 2}
		got, _ := Next(r, e)
		clear(got.State)
		_ = append(got.State, cells(name)...)
		if !slices.Equal(s, cells(a, b)) || !slices.Equal(s[:3][2:], []api.Cell{{}}) {
			t.Errorf("after Next of the kind %d, the room is %s", e.Kind, told(r))
		}
	}
	l := []api.Event{a, b, message, name}
	got, _, _ := Run(l...)
	clear(got.State)
	wantRun(t, l, api.Room{State: cells(a, b, name), Len: 4}, 4, api.OK)
	if !slices.Equal(l, []api.Event{a, b, message, name}) {
		t.Error("Run changed the events")
	}
	r := api.Room{State: cells(a, b)}
	Joined(r)[0] = "x"
	Servers(r)[0] = 5
	wantUsers(t, r, []string{ann}, []int{0})
}

// Promise 18.3: nor do texts lie in an argument's memory.
func TestNewTexts(t *testing.T) {
	own := func(e api.Event) api.Event {
		e.Room, e.Sender, e.Key, e.Body = strings.Clone(e.Room), strings.Clone(e.Sender), strings.Clone(e.Key), strings.Clone(e.Body)
		return e
	}
	r := api.Room{State: cells(own(a), own(b)), Len: 2}
	for i, c := range r.State {
		r.State[i].Key = strings.Clone(c.Key)
	}
	for _, e := range []api.Event{own(message), own(name), own(b), own(bobs), {}} {
		got, _ := Next(r, e)
		apart(t, "Next", texts(got.State), append(texts(r.State), texts(cells(e))...))
	}
	l := []api.Event{own(a), own(b), own(name), own(message)}
	for many := range len(l) + 1 {
		got, _, _ := Run(append(l[:many:many], api.Event{})...)
		apart(t, "Run", texts(got.State), texts(cells(l...)))
	}
	apart(t, "Joined", Joined(r), texts(r.State))
}

// Clone has no promise of its own: by it, other packages hand out rooms in new memory.
func TestClone(t *testing.T) {
	crossed := cells(a, b)
	crossed[0].Key, crossed[1].Event.Key = "x", "y"
	for _, r := range append(wrongRooms(), api.Room{}, api.Room{State: cells(a, b, name, h), Hub: 2, Epoch: 1, Len: 5}, api.Room{State: crossed}) {
		before := slices.Clone(r.State)
		got := Clone(r)
		if !same(got, r) {
			t.Errorf("Clone(%s) = %s", told(r), told(got))
		}
		apart(t, "Clone", texts(got.State), texts(r.State))
		clear(got.State)
		if !slices.Equal(r.State, before) {
			t.Errorf("Clone(%s) shares its cells", told(r))
		}
	}
}

// texts are the texts of cells.
func texts(s []api.Cell) []string {
	var l []string
	for _, c := range s {
		l = append(l, c.Key, c.Event.Room, c.Event.Sender, c.Event.Key, c.Event.Body)
	}
	return l
}

// apart fails a test if one of the results is one of the arguments.
func apart(t *testing.T, call string, results, arguments []string) {
	t.Helper()
	for _, result := range results {
		for _, argument := range arguments {
			if len(result) > 0 && unsafe.StringData(result) == unsafe.StringData(argument) {
				t.Errorf("%s: the text %q lies in an argument's memory", call, result)
			}
		}
	}
}

// someEvent is an event of some kind by one of a few users.
func someEvent(source *rand.Rand) api.Event {
	users := []string{ann, "@amy:0", bob, "@cy:2"}
	e := of(api.EventKind(1+source.Intn(8)), users[source.Intn(len(users))], "", "x")
	e.Nonce = source.Int63n(100)
	pick := func(words ...string) string { return words[source.Intn(len(words))] }
	switch e.Kind {
	case api.EventMember:
		e.Key, e.Body = pick(append(users, e.Sender, e.Sender, e.Sender)...), pick("join", "join", "invite", "leave", "ban", "knock", "third")
	case api.EventPower:
		e.Body = pick("0 50 0 50 50 50 @ann:0 100", "0 50 0 50 50 50 @ann:0 100 @bob:1 60", "x")
	case api.EventRule:
		e.Body = pick("public", "public", "knock", "invite", "x")
	case api.EventHandover:
		e.Body = pick("0", "1", "2", "63", "64", "x")
	}
	return e
}

// lastly is what a room is by the events that were permitted: another telling of the chapter's words.
func lastly(l []api.Event) api.Room {
	r := api.Room{Len: len(l)}
	for _, e := range l {
		switch e.Kind {
		case api.EventCreate:
			r.Hub = 0
		case api.EventHandover:
			r.Hub, _ = strconv.Atoi(e.Body)
			r.Epoch++
		}
	}
	for i, e := range l {
		later := slices.ContainsFunc(l[i+1:], func(f api.Event) bool { return f.Kind == e.Kind && f.Key == e.Key })
		if !later && e.Kind != api.EventMessage && e.Kind != api.EventRedact {
			r.State = append(r.State, cells(e)...)
		}
	}
	var events []api.Event
	for _, c := range r.State {
		events = append(events, c.Event)
	}
	r.State = cells(events...)
	return r
}

// Promises 18.1, 18.2, 18.4 and 18.5: whatever events come, Run does as Next does, one by one; the room after each beginning is that which Run reached there; and the hub, the epoch and the rest are what the permitted events say.
func TestRandom(t *testing.T) {
	source := rand.New(rand.NewSource(1))
	handovers := 0
	for range 40 {
		var r api.Room
		var taken []api.Event
		for range 250 {
			e := someEvent(source)
			if len(taken) == 0 && source.Intn(3) > 0 {
				e = a
			}
			want := auth.Allowed(r.State, e)
			next, errno := Next(r, e)
			if errno != want || errno != api.OK && !same(next, r) {
				t.Fatalf("Next(%s, %v) = %s, %d; want %d", told(r), e, told(next), errno, want)
			}
			wantRun(t, append(slices.Clone(taken), e, a), next, len(taken)+okay(errno), stop(errno))
			if errno == api.OK {
				taken = append(taken, e)
				r = next
			}
			if !same(r, lastly(taken)) {
				t.Fatalf("after %v the room is %s; want %s", taken, told(r), told(lastly(taken)))
			}
			wantCheck(t, r, api.OK)
		}
		handovers += r.Epoch
		beginnings(t, taken)
	}
	if handovers < 40 {
		t.Errorf("there were only %d handovers", handovers)
	}
}

// okay is 1 for OK, and 0 for an error.
func okay(errno api.Errno) int {
	if errno == api.OK {
		return 1
	}
	return 0
}

// stop is the error of an event, or that of the second EventCreate behind it.
func stop(errno api.Errno) api.Errno {
	if errno == api.OK {
		return api.ErrAuth
	}
	return errno
}

// beginnings fails a test unless Run of each beginning of a list reaches the room that Next, one by one, reaches there.
func beginnings(t *testing.T, l []api.Event) {
	t.Helper()
	var r api.Room
	for many := range len(l) + 1 {
		wantRun(t, l[:many], r, many, api.OK)
		if many < len(l) {
			r, _ = Next(r, l[many])
		}
	}
	if errno := state.Check(r.State); errno != api.OK {
		t.Errorf("the state of %s is not valid", told(r))
	}
}
