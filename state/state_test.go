package state

import (
	"fmt"
	"math/rand"
	"slices"
	"sort"
	"strconv"
	"strings"
	"testing"
	"unsafe"

	"palaver/api"
)

// The chapter's events.
var (
	join   = api.Event{Room: "!hall:0", Sender: "@ann:0", Kind: api.EventMember, Key: "@bob:1", Body: "join"}
	create = api.Event{Room: "!hall:0", Sender: "@ann:0", Kind: api.EventCreate}
)

// stateKinds are the state kinds, in their order.
var stateKinds = []api.EventKind{api.EventCreate, api.EventMember, api.EventPower, api.EventRule, api.EventName, api.EventHandover}

// cell is an event's cell.
func cell(e api.Event) api.Cell {
	return api.Cell{Kind: e.Kind, Key: e.Key, Event: e}
}

// of is a valid event of a kind.
func of(kind api.EventKind, body string) api.Event {
	e := api.Event{Room: "!hall:0", Sender: "@ann:0", Kind: kind, Body: body}
	if kind == api.EventMember {
		e.Key = "@bob:1"
	}
	return e
}

// member is an EventMember of a user.
func member(user, body string) api.Event {
	return api.Event{Room: "!hall:0", Sender: "@ann:0", Kind: api.EventMember, Key: user, Body: body}
}

// members are the cells of many users, in their order.
func members(many int) []api.Cell {
	var cells []api.Cell
	for i := range many {
		cells = append(cells, cell(member(fmt.Sprintf("@u%04d:%d", i, i%64), "join")))
	}
	return cells
}

// full is a state of as many cells as there can be, of two kinds.
func full() []api.Cell {
	return append([]api.Cell{cell(create)}, members(api.MaxCells-1)...)
}

// rightStates are valid states.
func rightStates() [][]api.Cell {
	var all []api.Cell
	for _, kind := range stateKinds {
		all = append(all, cell(of(kind, "x")))
	}
	longest := of(api.EventName, strings.Repeat("x", api.MaxBody))
	longest.Nonce = api.MaxNonce
	other := of(api.EventRule, "no rule")
	other.Room, other.Sender = "!other:63", "@cy:5"
	states := [][]api.Cell{
		nil,
		{},
		{cell(create), cell(join)},
		all,
		full(),
		full()[1:],
		members(api.MaxCells),
		{cell(member("@a:1", "join")), cell(member("@a:10", "ban")), cell(member("@a:2", "")), cell(member("@b:1", "x"))},
		{cell(member("@-:0", "")), cell(member("@0:0", "")), cell(member("@_:0", "")), cell(member("@a:0", ""))},
		{cell(create), cell(other), cell(longest)},
	}
	for i := range all {
		states = append(states, all[i:i+1], all[i:])
	}
	return states
}

// wrongStates are states that are not valid, each by one thing.
func wrongStates() [][]api.Cell {
	bob, eve := cell(member("@bob:1", "join")), cell(member("@eve:1", "join"))
	wrong := [][]api.Cell{
		{{}},
		{cell(create), {}},
		{bob, cell(create)},
		{bob, bob},
		{eve, bob},
		{cell(create), cell(create)},
		{cell(create), cell(api.Event{Room: "!hall:0", Sender: "@bob:0", Kind: api.EventCreate, Nonce: 1})},
		{bob, cell(member("@bob:1", "leave"))},
		{bob, eve, bob},
		{cell(create), eve, bob},
		{cell(of(api.EventHandover, "1")), cell(of(api.EventName, "x"))},
		{cell(member("@a:2", "join")), cell(member("@a:10", "join"))},
		{cell(member("@_:0", "")), cell(member("@0:0", ""))},
		append(full(), cell(of(api.EventHandover, "1"))),
		append(members(api.MaxCells), cell(of(api.EventName, "x"))),
		members(api.MaxCells + 1),
		members(3 * api.MaxCells),
	}
	with := func(change func(c *api.Cell)) {
		for _, at := range []int{0, 1, 5} {
			s := []api.Cell{cell(create), bob, cell(of(api.EventPower, "x")), cell(of(api.EventRule, "x")), cell(of(api.EventName, "x")), cell(of(api.EventHandover, "x"))}
			change(&s[at])
			wrong = append(wrong, s)
		}
	}
	with(func(c *api.Cell) { c.Event.Kind = c.Event.Kind%7 + 1 })
	with(func(c *api.Cell) { c.Event.Kind = api.EventMessage })
	with(func(c *api.Cell) { c.Kind, c.Event.Kind = api.EventMessage, api.EventMessage })
	with(func(c *api.Cell) { c.Kind, c.Event.Kind = api.EventRedact, api.EventRedact })
	with(func(c *api.Cell) { c.Kind, c.Event.Kind = api.EventNone, api.EventNone })
	with(func(c *api.Cell) { c.Kind, c.Event.Kind = api.EventCount, api.EventCount })
	with(func(c *api.Cell) { c.Kind = api.EventMessage })
	with(func(c *api.Cell) { c.Key = "@eve:0" })
	with(func(c *api.Cell) { c.Key += " " })
	with(func(c *api.Cell) { c.Event.Key = "@eve:0" })
	with(func(c *api.Cell) { c.Key, c.Event.Key = "x", "x" })
	with(func(c *api.Cell) { c.Event.Room = "hall" })
	with(func(c *api.Cell) { c.Event.Sender = "ann" })
	with(func(c *api.Cell) { c.Event.Body = strings.Repeat("x", api.MaxBody+1) })
	with(func(c *api.Cell) { c.Event.Nonce = -1 })
	with(func(c *api.Cell) { c.Event = api.Event{} })
	for _, kind := range []api.EventKind{api.EventMessage, api.EventRedact} {
		e := of(kind, "x")
		wrong = append(wrong, []api.Cell{cell(e)}, []api.Cell{cell(create), bob, cell(e)})
	}
	return wrong
}

// wrongEvents are events that no state may have.
func wrongEvents() []api.Event {
	wrong := []api.Event{{}, of(api.EventMessage, "hi"), of(api.EventRedact, "hi"), member("", "join"), member("bob", "join"), member("!bob:1", "join")}
	with := func(change func(e *api.Event)) {
		for _, kind := range stateKinds {
			e := of(kind, "x")
			change(&e)
			wrong = append(wrong, e)
		}
	}
	with(func(e *api.Event) { e.Room = "@hall:0" })
	with(func(e *api.Event) { e.Sender = "" })
	with(func(e *api.Event) { e.Key = "x" })
	with(func(e *api.Event) { e.Body = strings.Repeat("x", api.MaxBody+1) })
	with(func(e *api.Event) { e.Nonce = -1 })
	with(func(e *api.Event) { e.Nonce = api.MaxNonce + 1 })
	with(func(e *api.Event) { e.Kind = api.EventNone })
	with(func(e *api.Event) { e.Kind = api.EventCount })
	with(func(e *api.Event) { e.Kind = 255 })
	return wrong
}

// told is a state with no more than its kinds, keys and the beginnings of its bodies.
func told(s []api.Cell) string {
	var b strings.Builder
	for i, c := range s {
		if i == 8 {
			b.WriteString("..")
			break
		}
		fmt.Fprintf(&b, "[%d %.20q %d %.20q %.20q]", c.Kind, c.Key, c.Event.Kind, c.Event.Key, c.Event.Body)
	}
	return fmt.Sprintf("%s (%d cells)", b.String(), len(s))
}

// wantState fails a test unless a call answers a state and an error's number.
func wantState(t *testing.T, call string, got []api.Cell, errno api.Errno, want []api.Cell, wantErrno api.Errno) {
	t.Helper()
	if !slices.Equal(got, want) || errno != wantErrno {
		t.Errorf("%s = %s, %d; want %s, %d", call, told(got), errno, told(want), wantErrno)
	}
}

// wantGet fails a test unless Get answers an event and an error's number.
func wantGet(t *testing.T, s []api.Cell, kind api.EventKind, key string, want api.Event, wantErrno api.Errno) {
	t.Helper()
	if e, errno := Get(s, kind, key); e != want || errno != wantErrno {
		t.Errorf("Get(%s, %d, %q) = %v, %d; want %v, %d", told(s), kind, key, e, errno, want, wantErrno)
	}
}

// Promises 14.1 and 14.2: the chapter's examples.
func TestExamples(t *testing.T) {
	s, errno := Set(nil, join)
	wantState(t, "the first Set", s, errno, []api.Cell{{Kind: api.EventMember, Key: "@bob:1", Event: join}}, api.OK)
	s, errno = Set(s, create)
	wantState(t, "the second Set", s, errno, []api.Cell{{Kind: api.EventCreate, Event: create}, {Kind: api.EventMember, Key: "@bob:1", Event: join}}, api.OK)
	same, errno := Set(s, of(api.EventMessage, ""))
	wantState(t, "Set of a message", same, errno, s, api.ErrForm)
	wantGet(t, s, api.EventMember, "@ann:0", api.Event{}, api.ErrNone)
	if keys := Keys(s, api.EventMember); !slices.Equal(keys, []string{"@bob:1"}) {
		t.Errorf("Keys = %q", keys)
	}
	if bob, ann := Member(s, "@bob:1"), Member(s, "@ann:0"); bob != "join" || ann != "leave" {
		t.Errorf("Member = %q and %q", bob, ann)
	}
}

// Promise 14.1.
func TestCheck(t *testing.T) {
	for _, s := range rightStates() {
		if errno := Check(s); errno != api.OK {
			t.Errorf("Check(%s) = %d; want OK", told(s), errno)
		}
	}
	for _, s := range wrongStates() {
		if errno := Check(s); errno != api.ErrForm {
			t.Errorf("Check(%s) = %d; want ErrForm", told(s), errno)
		}
	}
}

// Promise 14.1: the error of Check comes first, without a state or an event.
func TestWrongState(t *testing.T) {
	for _, s := range wrongStates() {
		for _, e := range append(wrongEvents(), create, join) {
			got, errno := Set(s, e)
			if got != nil {
				t.Errorf("Set(%s, ..) answers a state", told(s))
			}
			wantState(t, "Set to "+told(s), got, errno, nil, api.ErrForm)
		}
		for _, c := range s {
			wantGet(t, s, c.Kind, c.Key, api.Event{}, api.ErrForm)
		}
		wantGet(t, s, api.EventMember, "@ann:0", api.Event{}, api.ErrForm)
		wantGet(t, s, api.EventNone, "", api.Event{}, api.ErrForm)
	}
}

// wantSet is what Set makes of a valid state, apart from the program: a cell is exchanged, or added and put into its place.
func wantSet(s []api.Cell, e api.Event) []api.Cell {
	var cells []api.Cell
	for _, c := range s {
		if c.Kind != e.Kind || c.Key != e.Key {
			cells = append(cells, c)
		}
	}
	cells = append(cells, api.Cell{Kind: e.Kind, Key: e.Key, Event: e})
	sort.SliceStable(cells, func(i, j int) bool {
		a, b := cells[i], cells[j]
		return a.Kind < b.Kind || a.Kind == b.Kind && a.Key < b.Key
	})
	return cells
}

// Promise 14.1.
func TestSet(t *testing.T) {
	for _, s := range rightStates() {
		ahead := slices.Clone(s)
		events := []api.Event{member("@a:0", "x"), member("@abcdefghijklmnop:63", "x"), member("@u0100:0", ""), member("@z:9", "join")}
		for _, kind := range stateKinds {
			events = append(events, of(kind, "other"), of(kind, strings.Repeat("x", api.MaxBody)))
		}
		for _, c := range s {
			e := c.Event
			e.Room, e.Sender, e.Body, e.Nonce = "!other:63", "@cy:9", "other", 9
			events = append(events, c.Event, e)
		}
		for _, e := range events {
			want, wantErrno := wantSet(s, e), api.OK
			if len(want) > api.MaxCells {
				want, wantErrno = s, api.ErrFull
			}
			got, errno := Set(s, e)
			wantState(t, fmt.Sprintf("Set(%s, %d %q)", told(s), e.Kind, e.Key), got, errno, want, wantErrno)
		}
		if !slices.Equal(s, ahead) {
			t.Errorf("Set changed the state %s", told(ahead))
		}
	}
}

// Promise 14.1: the first error that applies, with a copy of the state.
func TestSetErrors(t *testing.T) {
	for _, s := range rightStates() {
		for _, e := range wrongEvents() {
			got, errno := Set(s, e)
			wantState(t, fmt.Sprintf("Set(%s, %d %q)", told(s), e.Kind, e.Key), got, errno, s, api.ErrForm)
		}
	}
	for _, e := range []api.Event{of(api.EventHandover, "1"), of(api.EventPower, ""), member("@a:0", "join"), member("@z:0", "join")} {
		got, errno := Set(full(), e)
		wantState(t, "Set to a full state", got, errno, full(), api.ErrFull)
		got, errno = Set(full()[1:], e)
		wantState(t, "Set to one cell less", got, errno, wantSet(full()[1:], e), api.OK)
	}
	got, errno := Set(full(), member("@u0100:36", "ban"))
	wantState(t, "Set of a cell that is there", got, errno, wantSet(full(), member("@u0100:36", "ban")), api.OK)
}

// Promise 14.2.
func TestGet(t *testing.T) {
	for _, s := range rightStates() {
		there := map[string]api.Event{}
		for _, c := range s {
			there[string([]byte{byte(c.Kind)})+c.Key] = c.Event
		}
		keys := []string{"", " ", "x", "@ann:0", "@bob:1", "@a:1", "@a:10", "@u0000:0", "@u0254:62", "@u0255:63"}
		for _, c := range s {
			keys = append(keys, c.Key)
		}
		for _, key := range keys {
			for _, kind := range []api.EventKind{0, 1, 2, 3, 4, 5, 6, 7, 8, 9, 255} {
				want, is := there[string([]byte{byte(kind)})+key]
				if is {
					wantGet(t, s, kind, key, want, api.OK)
				} else {
					wantGet(t, s, kind, key, api.Event{}, api.ErrNone)
				}
			}
		}
	}
}

// Promise 14.2: keys, also those of lists that are no states.
func TestKeys(t *testing.T) {
	for _, s := range append(rightStates(), wrongStates()...) {
		for kind := range 256 {
			var want []string
			for _, c := range s {
				if int(c.Kind) == kind {
					want = append(want, c.Key)
				}
			}
			if got := Keys(s, api.EventKind(kind)); !slices.Equal(got, want) {
				t.Errorf("Keys(%s, %d) = %.80q; want %.80q", told(s), kind, got, want)
			}
		}
	}
	unsorted := []api.Cell{cell(member("@c:0", "")), cell(member("@a:0", "")), cell(create), cell(member("@c:0", "")), cell(member("", ""))}
	if got, want := Keys(unsorted, api.EventMember), []string{"@c:0", "@a:0", "@c:0", ""}; !slices.Equal(got, want) {
		t.Errorf("Keys = %q; want %q", got, want)
	}
	if got, want := Keys(unsorted, api.EventCreate), []string{""}; !slices.Equal(got, want) {
		t.Errorf("Keys = %q; want %q", got, want)
	}
}

// Promise 14.2: memberships, also those of lists that are no states.
func TestMember(t *testing.T) {
	wantMember := func(s []api.Cell, user, want string) {
		t.Helper()
		if got := Member(s, user); got != want {
			t.Errorf("Member(%s, %q) = %q; want %q", told(s), user, got, want)
		}
	}
	for _, s := range rightStates() {
		for _, c := range s {
			if c.Kind == api.EventMember {
				wantMember(s, c.Key, c.Event.Body)
				wantMember(s, c.Key+" ", "leave")
			}
		}
		wantMember(s, "", "leave")
		wantMember(s, "@ann:0", "leave")
	}
	wantMember(full(), "@u0000:0", "join")
	wantMember(full(), "@u0254:62", "join")
	wantMember(full(), "@u0255:63", "leave")
	for _, body := range []string{"", "join", "invite", "leave", "ban", "knock", "third", strings.Repeat("x", api.MaxBody+1)} {
		wantMember([]api.Cell{cell(member("@bob:1", body))}, "@bob:1", body)
		wantMember([]api.Cell{cell(member("@cy:1", "join")), cell(member("@bob:1", body)), cell(member("@bob:1", "other"))}, "@bob:1", body)
	}
	wantMember([]api.Cell{{Kind: api.EventName, Key: "@bob:1", Event: member("@bob:1", "join")}}, "@bob:1", "leave")
	wantMember([]api.Cell{{Kind: api.EventMember, Key: "@bob:1", Event: of(api.EventName, "x")}}, "@bob:1", "x")
	wantMember([]api.Cell{{Kind: api.EventMember, Key: "@eve:1", Event: member("@bob:1", "join")}}, "@bob:1", "leave")
	wantMember([]api.Cell{cell(member("", "join"))}, "", "join")
}

// Promise 14.3: a change of what a call answers changes neither its argument nor what comes next.
func TestNewMemory(t *testing.T) {
	room := make([]api.Cell, 2, 8)
	copy(room, []api.Cell{cell(create), cell(join)})
	for _, e := range []api.Event{of(api.EventName, "x"), member("@a:0", "join"), join, of(api.EventMessage, "hi"), {}} {
		got, _ := Set(room, e)
		for i := range got {
			got[i] = api.Cell{}
		}
		_ = append(got, cell(e))
		if !slices.Equal(room, []api.Cell{cell(create), cell(join)}) || !slices.Equal(room[:3][2:], []api.Cell{{}}) {
			t.Fatalf("after Set of the kind %d, the state is %s", e.Kind, told(room))
		}
	}
	crowd := full()
	got, _ := Set(crowd, of(api.EventName, "x"))
	clear(got)
	if !slices.Equal(crowd, full()) {
		t.Error("Set to a full state handed out the state itself")
	}
	keys := Keys(room, api.EventMember)
	keys[0] = "x"
	if again := Keys(room, api.EventMember); again[0] != "@bob:1" || room[1].Key != "@bob:1" {
		t.Errorf("Keys = %q after a change of the keys", again)
	}
}

// Promise 14.3: nor do texts lie in an argument's memory.
func TestNewTexts(t *testing.T) {
	own := func(e api.Event) api.Event {
		return api.Event{Room: strings.Clone(e.Room), Sender: strings.Clone(e.Sender), Kind: e.Kind, Key: strings.Clone(e.Key), Body: strings.Clone(e.Body)}
	}
	s := []api.Cell{{Kind: api.EventMember, Key: strings.Clone("@bob:1"), Event: own(join)}}
	e := own(of(api.EventName, "name"))
	for _, set := range []api.Event{e, own(of(api.EventMessage, "hi"))} {
		got, _ := Set(s, set)
		for _, c := range got {
			apart(t, "Set", texts(c), texts(s[0]))
			apart(t, "Set", texts(c), texts(cell(set)))
		}
	}
	found, _ := Get(s, api.EventMember, "@bob:1")
	apart(t, "Get", texts(cell(found)), texts(s[0]))
	apart(t, "Keys", Keys(s, api.EventMember), texts(s[0]))
	apart(t, "Member", []string{Member(s, "@bob:1")}, texts(s[0]))
}

// texts are the texts of a cell.
func texts(c api.Cell) []string {
	return []string{c.Key, c.Event.Room, c.Event.Sender, c.Event.Key, c.Event.Body}
}

// apart fails a test if one of the results is one of the arguments.
func apart(t *testing.T, call string, results, arguments []string) {
	t.Helper()
	for _, result := range results {
		for _, argument := range arguments {
			if len(result) > 0 && unsafe.StringData(result) == unsafe.StringData(argument) {
				t.Errorf("%s: the text %q lies in an argument's memory", call, result)
			}
		}
	}
}

// place is a kind and a key.
type place struct {
	kind api.EventKind
	key  string
}

// Promise 14.4: after any events, the last one of each kind and key is there.
func TestLast(t *testing.T) {
	source := rand.New(rand.NewSource(1))
	for round := range 60 {
		last := map[place]api.Event{}
		var s []api.Cell
		users := []int{3, 50, 400}[round%3]
		for i := range 600 {
			e := someEvent(source, users)
			e.Nonce = int64(i)
			next, errno := Set(s, e)
			_, is := last[place{e.Kind, e.Key}]
			switch {
			case e.Kind == api.EventMessage || e.Kind == api.EventRedact || e.Sender == "":
				wantState(t, "Set of a wrong event", next, errno, s, api.ErrForm)
			case !is && len(last) == api.MaxCells:
				wantState(t, "Set to a full state", next, errno, s, api.ErrFull)
			case errno != api.OK:
				t.Fatalf("Set(%s, %v) = %d", told(s), e, errno)
			default:
				last[place{e.Kind, e.Key}] = e
			}
			s = next
		}
		wantLast(t, s, last)
	}
}

// someEvent is an event of some kind, about one of some users.
func someEvent(source *rand.Rand, users int) api.Event {
	e := api.Event{Room: "!hall:0", Sender: "@ann:0", Kind: api.EventKind(1 + source.Intn(8)), Body: strconv.Itoa(source.Intn(5))}
	if source.Intn(3) > 0 {
		e.Kind = api.EventMember
	}
	if e.Kind == api.EventMember {
		e.Key = "@u" + strconv.Itoa(source.Intn(users)) + ":" + strconv.Itoa(source.Intn(2))
	}
	if source.Intn(20) == 0 {
		e.Sender = ""
	}
	return e
}

// wantLast fails a test unless a state has these events, and no others.
func wantLast(t *testing.T, s []api.Cell, last map[place]api.Event) {
	t.Helper()
	if errno := Check(s); errno != api.OK || len(s) != len(last) {
		t.Fatalf("Check(%s) = %d; want a state of %d cells", told(s), errno, len(last))
	}
	for at, e := range last {
		wantGet(t, s, at.kind, at.key, e, api.OK)
		if at.kind == api.EventMember && Member(s, at.key) != e.Body {
			t.Errorf("Member(.., %q) = %q; want %q", at.key, Member(s, at.key), e.Body)
		}
	}
}
