package auth

import (
	"fmt"
	"maps"
	"math/rand"
	"slices"
	"strconv"
	"strings"
	"testing"
	"unsafe"

	"palaver/api"
	"palaver/state"
)

// The chapter's users and levels.
const (
	ann     = "@ann:0"
	bob     = "@bob:1"
	cy      = "@cy:2"
	annText = "0 50 0 50 50 50 @ann:0 100"
)

// The kinds of events, the words, and texts that are neither words nor levels.
var (
	kinds       = []api.EventKind{api.EventCreate, api.EventMember, api.EventPower, api.EventRule, api.EventName, api.EventMessage, api.EventRedact, api.EventHandover}
	memberships = []string{"join", "invite", "leave", "ban", "knock"}
	rules       = []string{"public", "invite", "knock"}
	noWords     = []string{"", " ", "third", "Join", "join ", " join", "joi", "joinn", "bans", "Public", "private", "0", ann, "\xff", strings.Repeat("x", api.MaxBody)}
	noLevels    = []string{"", " ", "0", "0 50 0 50 50", "0 50 0 50 50 50 ", " 0 50 0 50 50 50", "0 50 0 50 50 101", "0 50 0 50 50 -1", "0 50 0 50 050 50", "0 50 0 50 50 50 @ann:0", "0 50 0 50 50 50 ann 100", "0 50 0 50 50 50 @b:0 1 @a:0 1", "invite", strings.Repeat("0 ", 200)}
)

// of is an event of the chapter's room.
func of(kind api.EventKind, sender, key, body string) api.Event {
	return api.Event{Room: "!hall:0", Sender: sender, Kind: kind, Key: key, Body: body}
}

// memberOf is an event by which somebody changes a membership.
func memberOf(sender, key, body string) api.Event {
	return of(api.EventMember, sender, key, body)
}

// create is the event by which @ann:0 creates the room.
func create() api.Event {
	return of(api.EventCreate, ann, "", "")
}

// states is the state that has these events, in whatever order they come.
func states(events ...api.Event) []api.Cell {
	var s []api.Cell
	for _, e := range events {
		s = append(s, api.Cell{Kind: e.Kind, Key: e.Key, Event: e})
	}
	slices.SortFunc(s, func(a, b api.Cell) int {
		if a.Kind != b.Kind {
			return int(a.Kind) - int(b.Kind)
		}
		return strings.Compare(a.Key, b.Key)
	})
	return s
}

// hall is the room that @ann:0 created and joined, with these events, too.
func hall(events ...api.Event) []api.Cell {
	return states(append([]api.Event{create(), memberOf(ann, ann, "join")}, events...)...)
}

// sample is an event of a kind that @ann:0 may send in the hall, where the kind may be sent at all.
func sample(kind api.EventKind) api.Event {
	switch kind {
	case api.EventMember:
		return memberOf(ann, bob, "invite")
	case api.EventPower:
		return of(kind, ann, "", annText)
	case api.EventRule:
		return of(kind, ann, "", "public")
	case api.EventHandover:
		return of(kind, ann, "", "2")
	}
	return of(kind, ann, "", "x")
}

// wrongStates are lists of cells that are no states.
func wrongStates() [][]api.Cell {
	crowd := []api.Event{create()}
	for i := range api.MaxCells {
		crowd = append(crowd, memberOf(ann, fmt.Sprintf("@u%d:0", i), "join"))
	}
	made, joined := states(create())[0], states(memberOf(ann, ann, "join"))[0]
	wrong := [][]api.Cell{
		{{}},
		{made, {}},
		{joined, made},
		{made, made},
		{made, joined, joined},
		states(crowd...),
		{made, joined, {Kind: api.EventMessage, Event: of(api.EventMessage, ann, "", "hi")}},
		{made, joined, {Kind: api.EventPower, Event: of(api.EventRule, ann, "", annText)}},
		{made, joined, {Kind: api.EventName, Key: "x", Event: of(api.EventName, ann, "", "x")}},
	}
	for at := range 2 {
		for _, change := range []func(e *api.Event){
			func(e *api.Event) { e.Room = "hall" },
			func(e *api.Event) { e.Sender = "" },
			func(e *api.Event) { e.Nonce = -1 },
			func(e *api.Event) { e.Body = strings.Repeat("x", api.MaxBody+1) },
		} {
			s := hall()
			change(&s[at].Event)
			wrong = append(wrong, s)
		}
	}
	return wrong
}

// wrongEvents are events that are not valid.
func wrongEvents() []api.Event {
	wrong := []api.Event{{}, memberOf(ann, "", "join"), memberOf(ann, "ann", "join"), memberOf(ann, "!hall:0", "join")}
	for _, change := range []func(e *api.Event){
		func(e *api.Event) { e.Room = "" },
		func(e *api.Event) { e.Room = "@hall:0" },
		func(e *api.Event) { e.Sender = "" },
		func(e *api.Event) { e.Sender = "!ann:0" },
		func(e *api.Event) { e.Key += "x" },
		func(e *api.Event) { e.Nonce = -1 },
		func(e *api.Event) { e.Nonce = api.MaxNonce + 1 },
		func(e *api.Event) { e.Body = strings.Repeat("x", api.MaxBody+1) },
		func(e *api.Event) { e.Kind = api.EventNone },
		func(e *api.Event) { e.Kind = api.EventCount },
		func(e *api.Event) { e.Kind = 255 },
	} {
		for _, kind := range kinds {
			e := sample(kind)
			change(&e)
			wrong = append(wrong, e)
		}
	}
	return wrong
}

// told is a state in few words.
func told(s []api.Cell) string {
	var b strings.Builder
	for _, c := range s[:min(len(s), 8)] {
		fmt.Fprintf(&b, "[%d %.20q of %.20q in %.20q: %.60q]", c.Kind, c.Key, c.Event.Sender, c.Event.Room, c.Event.Body)
	}
	return fmt.Sprintf("%s (%d cells)", b.String(), len(s))
}

// same tells whether levels are alike.
func same(a, b api.Levels) bool {
	six := func(l api.Levels) [6]int { return [6]int{l.All, l.State, l.Invite, l.Kick, l.Ban, l.Redact} }
	return six(a) == six(b) && slices.Equal(a.Users, b.Users)
}

// wantLevels fails a test unless Levels answers this.
func wantLevels(t *testing.T, s []api.Cell, want api.Levels, wantErrno api.Errno) {
	t.Helper()
	if got, errno := Levels(s); !same(got, want) || errno != wantErrno {
		t.Errorf("Levels(%s) = %+v, %d; want %+v, %d", told(s), got, errno, want, wantErrno)
	}
}

// wantRule fails a test unless Rule answers this.
func wantRule(t *testing.T, s []api.Cell, want string, wantErrno api.Errno) {
	t.Helper()
	if got, errno := Rule(s); got != want || errno != wantErrno {
		t.Errorf("Rule(%s) = %q, %d; want %q, %d", told(s), got, errno, want, wantErrno)
	}
}

// wantNext fails a test unless Next answers this.
func wantNext(t *testing.T, text string, want int, wantIs bool) {
	t.Helper()
	if got, is := Next(text); got != want || is != wantIs {
		t.Errorf("Next(%.80q) = %d, %t; want %d, %t", text, got, is, want, wantIs)
	}
}

// wantAllowed fails a test unless Allowed answers this.
func wantAllowed(t *testing.T, s []api.Cell, e api.Event, want api.Errno) {
	t.Helper()
	if errno := Allowed(s, e); errno != want {
		t.Errorf("Allowed(%s, %.300q) = %d; want %d", told(s), fmt.Sprint(e), errno, want)
	}
}

// freshLevels are those of a room that a user made.
func freshLevels(user string) api.Levels {
	return api.Levels{State: 50, Kick: 50, Ban: 50, Redact: 50, Users: []api.Level{{User: user, N: 100}}}
}

// Promises 17.1 and 17.2: the chapter's examples.
func TestExamples(t *testing.T) {
	s := hall()
	wantLevels(t, s, freshLevels(ann), api.OK)
	wantRule(t, s, "invite", api.OK)
	wantNext(t, "12", 12, true)
	wantNext(t, "64", 0, false)
	wantAllowed(t, nil, create(), api.OK)
	wantAllowed(t, nil, of(api.EventCreate, bob, "", ""), api.ErrAuth)
	wantAllowed(t, states(create()), memberOf(ann, ann, "join"), api.OK)
	wantAllowed(t, s, of(api.EventMessage, ann, "", "hi"), api.OK)
	wantAllowed(t, s, of(api.EventMessage, bob, "", "hi"), api.ErrAuth)
	wantAllowed(t, s, memberOf(ann, bob, "third"), api.ErrForm)
}

// Promise 17.1.
func TestLevels(t *testing.T) {
	wantLevels(t, states(create()), freshLevels(ann), api.OK)
	wantLevels(t, states(of(api.EventCreate, cy, "", annText)), freshLevels(cy), api.OK)
	given := api.Levels{All: 1, State: 2, Invite: 3, Kick: 4, Ban: 5, Redact: 6, Users: []api.Level{{User: bob, N: 100}, {User: cy}}}
	for _, s := range [][]api.Cell{
		states(of(api.EventPower, bob, "", "1 2 3 4 5 6 @bob:1 100 @cy:2 0")),
		hall(of(api.EventPower, bob, "", "1 2 3 4 5 6 @bob:1 100 @cy:2 0"), of(api.EventRule, ann, "", "no rule"), of(api.EventName, ann, "", annText)),
	} {
		wantLevels(t, s, given, api.OK)
	}
	wantLevels(t, hall(of(api.EventPower, ann, "", "0 0 0 0 0 0")), api.Levels{}, api.OK)
	for _, s := range [][]api.Cell{nil, {}, states(memberOf(ann, ann, "join")), states(memberOf(ann, ann, "join"), of(api.EventRule, ann, "", annText), of(api.EventName, ann, "", annText), of(api.EventHandover, ann, "", annText))} {
		wantLevels(t, s, api.Levels{}, api.ErrNone)
	}
	for _, text := range noLevels {
		wantLevels(t, hall(of(api.EventPower, ann, "", text)), api.Levels{}, api.ErrForm)
		wantLevels(t, states(of(api.EventPower, ann, "", text)), api.Levels{}, api.ErrForm)
	}
	for _, s := range wrongStates() {
		wantLevels(t, s, api.Levels{}, api.ErrForm)
	}
}

// Promise 17.1.
func TestRule(t *testing.T) {
	for _, s := range [][]api.Cell{nil, {}, states(create()), hall(of(api.EventPower, ann, "", "x"), of(api.EventName, ann, "", "public"))} {
		wantRule(t, s, "invite", api.OK)
	}
	for _, rule := range rules {
		wantRule(t, states(of(api.EventRule, ann, "", rule)), rule, api.OK)
		wantRule(t, hall(of(api.EventRule, bob, "", rule), of(api.EventPower, ann, "", "x")), rule, api.OK)
	}
	for _, word := range slices.Concat([]string{"join", "leave", "ban"}, noWords) {
		wantRule(t, states(of(api.EventRule, ann, "", word)), "", api.ErrForm)
		wantRule(t, hall(of(api.EventRule, ann, "", word)), "", api.ErrForm)
	}
	for _, s := range wrongStates() {
		wantRule(t, s, "", api.ErrForm)
	}
}

// noServers are texts of no server.
func noServers() []string {
	wrong := []string{"", " ", "-", "+", "-1", "-0", "+0", "+5", "00", "01", "05", "012", "0x1", "1.0", "1e1", "1_0", " 5", "5 ", "5\n", "5\x00", "a", "2a", "1:1", ":1", "@ann:1", "\xff", "\u0665", "\uff11", "18446744073709551616", "18446744073709551618", "4294967298", "-18446744073709551614", strings.Repeat("0", 500) + "5", strings.Repeat("9", 500)}
	for n := -300; n < 0; n++ {
		wrong = append(wrong, strconv.Itoa(n))
	}
	for n := 64; n < 1100; n++ {
		wrong = append(wrong, strconv.Itoa(n))
	}
	return wrong
}

// Promise 17.1.
func TestNext(t *testing.T) {
	for n := range 64 {
		wantNext(t, strconv.Itoa(n), n, true)
		wantNext(t, "0"+strconv.Itoa(n), 0, false)
	}
	for _, text := range append(noServers(), strings.Repeat("1", 1<<20), strings.Repeat("0", 1<<20)) {
		wantNext(t, text, 0, false)
	}
	for a := range 256 {
		for b := range 256 {
			text := string([]byte{byte(a), byte(b)})
			if n, err := strconv.Atoi(text); err != nil || n < 10 || n > 63 {
				wantNext(t, text, 0, false)
			}
		}
		if a < '0' || a > '9' {
			wantNext(t, string([]byte{byte(a)}), 0, false)
		}
	}
}

// Promise 17.2: what is not valid is refused ahead of all else.
func TestWrong(t *testing.T) {
	for _, s := range wrongStates() {
		for _, kind := range kinds {
			wantAllowed(t, s, sample(kind), api.ErrForm)
		}
		wantAllowed(t, s, of(api.EventCreate, bob, "", ""), api.ErrForm)
		wantAllowed(t, s, of(api.EventMessage, bob, "", ""), api.ErrForm)
		wantAllowed(t, s, api.Event{}, api.ErrForm)
	}
	for _, e := range wrongEvents() {
		for _, s := range [][]api.Cell{nil, states(create()), hall(), hall(of(api.EventPower, ann, "", "x"))} {
			wantAllowed(t, s, e, api.ErrForm)
		}
	}
}

// Promise 17.2: who may create a room, and where.
func TestCreate(t *testing.T) {
	for room := range 64 {
		for sender := range 64 {
			e := api.Event{Room: fmt.Sprintf("!r:%d", room), Sender: fmt.Sprintf("@u:%d", sender), Kind: api.EventCreate, Body: "any"}
			want := api.ErrAuth
			if room == sender {
				want = api.OK
			}
			wantAllowed(t, nil, e, want)
			wantAllowed(t, []api.Cell{}, e, want)
		}
	}
	for _, s := range [][]api.Cell{states(create()), hall(), states(memberOf(ann, ann, "join")), states(of(api.EventPower, ann, "", annText)), states(of(api.EventPower, ann, "", "x")), states(of(api.EventRule, ann, "", "x")), states(of(api.EventName, ann, "", "x"))} {
		wantAllowed(t, s, create(), api.ErrAuth)
		wantAllowed(t, s, of(api.EventCreate, bob, "", ""), api.ErrAuth)
		wantAllowed(t, s, api.Event{Room: "!other:1", Sender: bob, Kind: api.EventCreate}, api.ErrAuth)
	}
}

// Promise 17.2: without an EventCreate of this room, nothing else is permitted, whatever else is wrong.
func TestOtherRoom(t *testing.T) {
	everything := func(first api.Event) []api.Cell {
		s := states(memberOf(ann, ann, "join"), of(api.EventPower, ann, "", "0 0 0 0 0 0 @ann:0 100"), of(api.EventRule, ann, "", "public"))
		if first.Kind == api.EventCreate {
			s = append(states(first), s...)
		}
		return s
	}
	for _, kind := range kinds[1:] {
		e := sample(kind)
		wantAllowed(t, everything(create()), e, api.OK)
		for _, s := range [][]api.Cell{nil, {}, everything(api.Event{}), states(of(api.EventPower, ann, "", "x")), states(of(api.EventRule, ann, "", "x"))} {
			wantAllowed(t, s, e, api.ErrAuth)
		}
		for _, room := range []string{"!hall:1", "!hal:0", "!halls:0", "!hall:10"} {
			first := create()
			first.Room = room
			wantAllowed(t, everything(first), e, api.ErrAuth)
			wantAllowed(t, states(first, of(api.EventPower, ann, "", "x")), e, api.ErrAuth)
			other := e
			other.Room = room
			wantAllowed(t, everything(create()), other, api.ErrAuth)
			wantAllowed(t, everything(first), other, api.OK)
		}
	}
	// Only the room of the EventCreate counts, not that of the others.
	joined := memberOf(ann, ann, "join")
	joined.Room = "!other:5"
	wantAllowed(t, states(create(), joined), of(api.EventMessage, ann, "", "hi"), api.OK)
}

// Promise 17.2: the errors of Levels and Rule come ahead of what the event says, and behind the room.
func TestBroken(t *testing.T) {
	broken := [][]api.Cell{}
	for _, text := range noLevels {
		broken = append(broken, hall(of(api.EventPower, ann, "", text)), states(create(), of(api.EventPower, ann, "", text)))
	}
	for _, word := range slices.Concat([]string{"join", "leave", "ban"}, noWords) {
		broken = append(broken, hall(of(api.EventRule, ann, "", word)), states(create(), of(api.EventRule, ann, "", word)))
	}
	for _, s := range broken {
		for _, kind := range kinds[1:] {
			e := sample(kind)
			wantAllowed(t, s, e, api.ErrForm)
			e.Sender = bob
			wantAllowed(t, s, e, api.ErrForm)
			e.Room = "!other:0"
			wantAllowed(t, s, e, api.ErrAuth)
		}
		wantAllowed(t, s, memberOf(ann, ann, "join"), api.ErrForm)
		wantAllowed(t, s, memberOf(bob, bob, "leave"), api.ErrForm)
		wantAllowed(t, s, create(), api.ErrAuth)
	}
}

// Promise 17.2: whoever created a room may join it, as long as nothing else happened.
func TestFounder(t *testing.T) {
	fresh := states(create())
	wantAllowed(t, fresh, memberOf(ann, ann, "join"), api.OK)
	for _, rule := range rules {
		for _, s := range [][]api.Cell{
			states(create(), of(api.EventRule, ann, "", rule)),
			states(create(), of(api.EventRule, ann, "", rule), of(api.EventName, ann, "", "x")),
			states(create(), of(api.EventRule, ann, "", rule), memberOf(bob, bob, "join")),
			states(create(), of(api.EventRule, ann, "", rule), memberOf(ann, ann, "leave")),
		} {
			want := api.ErrAuth
			if rule == "public" {
				want = api.OK
			}
			wantAllowed(t, s, memberOf(ann, ann, "join"), want)
		}
	}
	for _, s := range [][]api.Cell{
		states(create(), of(api.EventName, ann, "", "x")),
		states(create(), of(api.EventHandover, ann, "", "1")),
		states(create(), of(api.EventPower, ann, "", annText)),
		states(create(), memberOf(ann, ann, "ban")),
		states(create(), memberOf(ann, bob, "join")),
	} {
		wantAllowed(t, s, memberOf(ann, ann, "join"), api.ErrAuth)
	}
	for _, word := range memberships {
		for _, sender := range []string{ann, bob, "@ann:1"} {
			for _, key := range []string{ann, bob, "@ann:1"} {
				if sender != ann || key != ann || word != "join" {
					wantAllowed(t, fresh, memberOf(sender, key, word), api.ErrAuth)
				}
			}
		}
	}
	for _, word := range noWords {
		wantAllowed(t, fresh, memberOf(ann, ann, word), api.ErrForm)
	}
	// Also where a room is of another server than its founder: Allowed does not ask it here.
	wantAllowed(t, states(of(api.EventCreate, bob, "", "")), memberOf(bob, bob, "join"), api.OK)
	wantAllowed(t, states(of(api.EventCreate, bob, "", "")), memberOf(ann, ann, "join"), api.ErrAuth)
}

// change is a change of a membership: the rule of the room, the memberships of the sender and the target and that which is wanted, the levels of the two, and whether they are one.
type change struct {
	rule, sender, was, wants string
	level, other             int
	self                     bool
}

// The levels that the changes need.
const (
	needInvite = 10
	needKick   = 20
	needBan    = 30
)

// permitted tells whether a change is permitted: another telling of the words of chapters 16 and 17.
func (c change) permitted() bool {
	present := c.was == "join" || c.was == "invite" || c.was == "knock"
	if c.self {
		switch c.wants {
		case "join":
			return c.was == "join" || c.was == "invite" || c.rule == "public" && c.was != "ban"
		case "leave":
			return present
		case "knock":
			return c.rule == "knock" && c.was == "leave"
		}
		return false
	}
	if c.sender != "join" {
		return false
	}
	switch c.wants {
	case "invite":
		return c.was != "join" && c.was != "ban" && c.level >= needInvite
	case "leave":
		return c.level > c.other && (present && c.level >= needKick || c.was == "ban" && c.level >= needBan)
	case "ban":
		return c.level > c.other && c.level >= needBan
	}
	return false
}

// state is the state of the room where the change is to be; @ann:0, who is not one of the two, created the room.
func (c change) state() []api.Cell {
	events := []api.Event{create(), memberOf(ann, ann, "join"), of(api.EventPower, ann, "", fmt.Sprintf("0 100 %d %d %d 100 @bob:1 %d @cy:2 %d", needInvite, needKick, needBan, c.level, c.other))}
	if c.rule != "invite" {
		events = append(events, of(api.EventRule, ann, "", c.rule))
	}
	if c.sender != "" {
		events = append(events, memberOf(ann, bob, c.sender))
	}
	if !c.self && c.was != "" {
		events = append(events, memberOf(ann, cy, c.was))
	}
	return states(events...)
}

// Promise 17.2: all changes of memberships, with the levels about what they need.
func TestMembership(t *testing.T) {
	for _, rule := range rules {
		for _, sender := range append([]string{""}, memberships...) {
			for _, wants := range memberships {
				for _, level := range []int{0, 9, 10, 19, 20, 29, 30, 100} {
					wantChange(t, change{rule, sender, sender, wants, level, level, true})
					for _, was := range append([]string{""}, memberships...) {
						for _, other := range []int{0, level - 1, level, level + 1, 100} {
							if 0 <= other && other <= 100 {
								wantChange(t, change{rule, sender, was, wants, level, other, false})
							}
						}
					}
				}
			}
		}
	}
}

// wantChange fails a test unless a change, which may name somebody who has no membership, is permitted, or not.
func wantChange(t *testing.T, c change) {
	t.Helper()
	s := c.state()
	e := memberOf(bob, cy, c.wants)
	if c.self {
		e.Key = bob
	}
	// Whoever has no membership is as one who left.
	if c.sender == "" {
		c.sender = "leave"
	}
	if c.was == "" {
		c.was = "leave"
	}
	want := api.ErrAuth
	if c.permitted() {
		want = api.OK
	}
	wantAllowed(t, s, e, want)
}

// Promise 17.2: memberships that are none are ErrForm, in the event and in the state.
func TestOddMembership(t *testing.T) {
	for _, word := range slices.Concat([]string{"public"}, noWords) {
		for _, s := range [][]api.Cell{states(create()), hall(), hall(of(api.EventRule, ann, "", "public")), hall(memberOf(ann, bob, "ban"))} {
			for _, e := range []api.Event{memberOf(ann, ann, word), memberOf(ann, bob, word), memberOf(bob, ann, word), memberOf(bob, bob, word), memberOf(cy, bob, word)} {
				wantAllowed(t, s, e, api.ErrForm)
			}
		}
		s := hall(memberOf(ann, bob, word), of(api.EventRule, ann, "", "public"))
		for _, wants := range memberships {
			wantAllowed(t, s, memberOf(ann, bob, wants), api.ErrForm)
			wantAllowed(t, s, memberOf(bob, ann, wants), api.ErrForm)
			wantAllowed(t, s, memberOf(bob, bob, wants), api.ErrForm)
		}
		wantAllowed(t, s, memberOf(ann, cy, "invite"), api.OK)
		for _, kind := range kinds[2:] {
			e := sample(kind)
			e.Sender = bob
			wantAllowed(t, s, e, api.ErrAuth)
		}
	}
}

// Promise 17.2: who may change a membership by the levels of a room that has set none.
func TestFirstLevels(t *testing.T) {
	s := hall(memberOf(ann, bob, "join"), memberOf(ann, cy, "join"), memberOf(cy, "@dan:3", "ban"))
	wantAllowed(t, s, memberOf(bob, "@eve:4", "invite"), api.OK)
	for _, wants := range []string{"leave", "ban"} {
		wantAllowed(t, s, memberOf(ann, bob, wants), api.OK)
		wantAllowed(t, s, memberOf(bob, cy, wants), api.ErrAuth)
		wantAllowed(t, s, memberOf(bob, ann, wants), api.ErrAuth)
		wantAllowed(t, s, memberOf(ann, "@dan:3", wants), api.OK)
		wantAllowed(t, s, memberOf(bob, "@dan:3", wants), api.ErrAuth)
	}
	wantAllowed(t, s, memberOf(ann, "@dan:3", "invite"), api.ErrAuth)
	wantAllowed(t, s, memberOf("@dan:3", "@dan:3", "leave"), api.ErrAuth)
	for _, kind := range kinds[2:] {
		e := sample(kind)
		wantAllowed(t, s, e, api.OK)
		e.Sender = bob
		want := api.ErrAuth
		if kind == api.EventMessage {
			want = api.OK
		}
		wantAllowed(t, s, e, want)
	}
}

// rightBodies and wrongBodies are bodies of kinds that are not all alike: the wrong ones are formed wrong.
var (
	rightBodies = map[api.EventKind][]string{
		api.EventMessage:  {"", "hi", "\xff", strings.Repeat("x", api.MaxBody)},
		api.EventName:     {"", "hall", "\xff", strings.Repeat("x", api.MaxBody)},
		api.EventRedact:   {"", "00", strings.Repeat("x", api.MaxBody)},
		api.EventRule:     rules,
		api.EventHandover: {"0", "1", "9", "10", "62", "63"},
	}
	wrongBodies = map[api.EventKind][]string{
		api.EventRule:     slices.Concat([]string{"join", "leave", "ban", annText}, noWords),
		api.EventHandover: slices.Concat(noServers(), rules),
		api.EventPower:    noLevels,
	}
)

// needed is the text of levels: what the state and redactions need, and what @bob:1 has.
func needed(needState, needRedact, level int) string {
	return fmt.Sprintf("0 %d 0 0 0 %d @bob:1 %d", needState, needRedact, level)
}

// Promise 17.2: what members may do but for memberships and levels, with the levels about what it needs.
func TestDeeds(t *testing.T) {
	for _, membership := range append([]string{""}, memberships...) {
		for _, levels := range [][3]int{{50, 60, 49}, {50, 60, 50}, {50, 60, 51}, {50, 60, 59}, {60, 50, 49}, {60, 50, 50}, {60, 50, 59}, {60, 50, 60}, {0, 100, 0}, {100, 0, 0}, {100, 100, 99}, {100, 100, 100}} {
			s := states(create(), of(api.EventPower, ann, "", needed(levels[0], levels[1], levels[2])))
			if membership != "" {
				s, _ = state.Set(s, memberOf(ann, bob, membership))
			}
			for kind, bodies := range rightBodies {
				need := levels[0]
				switch kind {
				case api.EventMessage:
					need = 0
				case api.EventRedact:
					need = levels[1]
				}
				want := api.OK
				if membership != "join" || levels[2] < need {
					want = api.ErrAuth
				}
				for _, body := range bodies {
					wantAllowed(t, s, of(kind, bob, "", body), want)
				}
			}
			for kind, bodies := range wrongBodies {
				want := api.ErrForm
				if membership != "join" {
					want = api.ErrAuth
				}
				for _, body := range bodies {
					wantAllowed(t, s, of(kind, bob, "", body), want)
				}
			}
		}
	}
}

// Promise 17.2: the level of whoever is not named is that of all.
func TestLevelOfAll(t *testing.T) {
	for all := range 101 {
		s := states(create(), memberOf(bob, bob, "join"), memberOf(ann, ann, "join"), of(api.EventPower, ann, "", fmt.Sprintf("%d 50 50 50 50 50 @ann:0 50", all)))
		want := api.ErrAuth
		if all >= 50 {
			want = api.OK
		}
		for _, e := range []api.Event{of(api.EventName, bob, "", "x"), of(api.EventRedact, bob, "", "x"), of(api.EventRule, bob, "", "knock"), of(api.EventHandover, bob, "", "1"), memberOf(bob, cy, "invite")} {
			wantAllowed(t, s, e, want)
		}
		above, below := api.ErrAuth, api.ErrAuth
		if all > 50 {
			above = api.OK
		}
		if all < 50 {
			below = api.OK
		}
		for _, wants := range []string{"leave", "ban"} {
			wantAllowed(t, s, memberOf(bob, ann, wants), above)
			wantAllowed(t, s, memberOf(ann, bob, wants), below)
		}
	}
}

// Promise 17.2: changes of the levels.
func TestPower(t *testing.T) {
	was := "0 50 0 50 50 50 @ann:0 100 @bob:1 50 @cy:2 49 @dan:3 50"
	s := hall(of(api.EventPower, ann, "", was), memberOf(ann, bob, "join"), memberOf(ann, cy, "join"))
	for _, c := range []struct {
		body         string
		ann, bob, cy api.Errno
	}{
		{was, api.OK, api.OK, api.ErrAuth},
		{"0 50 0 50 50 50 @ann:0 100 @bob:1 50 @cy:2 50 @dan:3 50", api.OK, api.OK, api.ErrAuth},
		{"0 50 0 50 50 50 @ann:0 100 @bob:1 50 @cy:2 51 @dan:3 50", api.OK, api.ErrAuth, api.ErrAuth},
		{"0 50 0 50 50 50 @ann:0 100 @bob:1 50 @cy:2 49 @dan:3 49", api.OK, api.ErrAuth, api.ErrAuth},
		{"0 50 0 50 50 50 @ann:0 100 @bob:1 49 @cy:2 49 @dan:3 50", api.OK, api.OK, api.ErrAuth},
		{"0 50 0 50 50 50 @ann:0 99 @bob:1 50 @cy:2 49 @dan:3 50", api.OK, api.ErrAuth, api.ErrAuth},
		{"0 50 0 50 50 50 @bob:1 50 @cy:2 49 @dan:3 50", api.OK, api.ErrAuth, api.ErrAuth},
		{"0 50 0 50 50 51 @ann:0 100 @bob:1 50 @cy:2 49 @dan:3 50", api.OK, api.ErrAuth, api.ErrAuth},
		{"0 40 0 50 50 50 @ann:0 100 @bob:1 50 @cy:2 49 @dan:3 50", api.OK, api.OK, api.ErrAuth},
		{"49 50 0 50 50 50 @ann:0 100 @bob:1 50 @cy:2 49 @dan:3 50", api.OK, api.OK, api.ErrAuth},
		{"0 50 0 50 50 50 @ann:0 100 @bob:1 50 @cy:2 49 @dan:3 50 @eve:4 100", api.OK, api.ErrAuth, api.ErrAuth},
	} {
		wantAllowed(t, s, of(api.EventPower, ann, "", c.body), c.ann)
		wantAllowed(t, s, of(api.EventPower, bob, "", c.body), c.bob)
		wantAllowed(t, s, of(api.EventPower, cy, "", c.body), c.cy)
		wantAllowed(t, s, of(api.EventPower, "@dan:3", "", c.body), api.ErrAuth)
	}
	// The levels ahead of the change count, not those behind it: nobody lets themself in.
	s = hall(memberOf(ann, bob, "join"))
	wantAllowed(t, s, of(api.EventPower, bob, "", "0 0 0 50 50 50 @ann:0 100"), api.ErrAuth)
	wantAllowed(t, s, of(api.EventPower, bob, "", "0 50 0 50 50 50 @ann:0 100 @bob:1 100"), api.ErrAuth)
	wantAllowed(t, s, of(api.EventPower, bob, "", annText), api.ErrAuth)
	wantAllowed(t, s, of(api.EventPower, ann, "", "0 50 0 50 50 50 @ann:0 100 @bob:1 100"), api.OK)
}

// Promise 17.3: a change of what a call answers changes neither its argument nor what comes next.
func TestNewMemory(t *testing.T) {
	for _, s := range [][]api.Cell{hall(), hall(of(api.EventPower, ann, "", annText), of(api.EventRule, ann, "", "knock"))} {
		ahead := slices.Clone(s)
		l, _ := Levels(s)
		l.Users[0] = api.Level{User: "x"}
		wantLevels(t, s, freshLevels(ann), api.OK)
		Rule(s)
		for _, kind := range kinds {
			Allowed(s, sample(kind))
		}
		if !slices.Equal(s, ahead) {
			t.Errorf("the state was changed to %s", told(s))
		}
	}
}

// Promise 17.3: nor do texts lie in an argument's memory.
func TestNewTexts(t *testing.T) {
	own := func(e api.Event) api.Event {
		e.Sender, e.Body = strings.Clone(e.Sender), strings.Clone(e.Body)
		return e
	}
	made, leveled, ruled := own(create()), own(of(api.EventPower, ann, "", annText)), own(of(api.EventRule, ann, "", "public"))
	l, _ := Levels(states(made))
	apart(t, "Levels", made.Sender, l.Users[0].User)
	l, _ = Levels(states(made, leveled, ruled))
	apart(t, "Levels", leveled.Body, l.Users[0].User)
	rule, _ := Rule(states(made, leveled, ruled))
	apart(t, "Rule", ruled.Body, rule)
}

// apart fails a test if a result lies inside an argument's memory.
func apart(t *testing.T, call, argument, result string) {
	t.Helper()
	from := uintptr(unsafe.Pointer(unsafe.StringData(argument)))
	at := uintptr(unsafe.Pointer(unsafe.StringData(result)))
	if from <= at && at < from+uintptr(len(argument)) {
		t.Errorf("%s: the result lies in the argument's memory", call)
	}
}

// Promise 17.4: whoever has not joined may only create the room, join, knock, or leave, whatever happened.
func TestJoined(t *testing.T) {
	source := rand.New(rand.NewSource(1))
	permitted := map[string]int{}
	for range 100 {
		var s []api.Cell
		for range 300 {
			e := someEvent(source)
			was := state.Member(s, e.Sender)
			if Allowed(s, e) != api.OK {
				continue
			}
			deed := strconv.Itoa(int(e.Kind))
			if e.Kind == api.EventMember && e.Key == e.Sender {
				deed = e.Body
			}
			permitted[deed]++
			if was != "join" && !slices.Contains([]string{"1", "join", "knock", "leave"}, deed) {
				t.Fatalf("Allowed(%s, %v) = OK, though the sender has %q", told(s), e, was)
			}
			if e.Kind != api.EventMessage && e.Kind != api.EventRedact {
				s, _ = state.Set(s, e)
			}
		}
	}
	seen := slices.Sorted(maps.Keys(permitted))
	if want := []string{"1", "2", "3", "4", "5", "6", "7", "8", "join", "knock", "leave"}; !slices.Equal(seen, want) {
		t.Errorf("events were permitted of %q alone; want %q", seen, want)
	}
}

// someEvent is an event of some kind by one of a few users, in the hall for the most part.
func someEvent(source *rand.Rand) api.Event {
	users := []string{ann, bob, cy, "@dan:0"}
	kind := kinds[source.Intn(len(kinds))]
	e := sample(kind)
	e.Sender = users[source.Intn(len(users))]
	switch kind {
	case api.EventMember:
		e.Key = users[source.Intn(len(users))]
		if source.Intn(2) == 0 {
			e.Key = e.Sender
		}
		e.Body = memberships[source.Intn(len(memberships))]
	case api.EventRule:
		e.Body = rules[source.Intn(len(rules))]
	case api.EventPower:
		e.Body = fmt.Sprintf("%d 50 0 50 50 50 @ann:0 100 @bob:1 %d", source.Intn(2)*60, source.Intn(11)*10)
	}
	if source.Intn(20) == 0 {
		e.Room = "!other:0"
	}
	return e
}
