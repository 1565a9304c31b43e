package member

import (
	"slices"
	"strings"
	"testing"

	"palaver/api"
)

// The words.
var (
	memberships = []string{"join", "invite", "leave", "ban", "knock"}
	rules       = []string{"public", "invite", "knock"}
)

// noWords are neither memberships nor rules.
var noWords = []string{
	"", " ", "third", "Join", "JOIN", "joi", "joinn", "oin", "join ", " join", "join\n", "join\x00", "joinjoin", "join,invite", "invites", "Invite", "invited", "left", "leaves", "Ban", "bans", "banned", "knocks", "knoc", "Knock", "Public", "publi", "publics", "private", "restricted", "0", "@ann:0", "\xff", "j\u043ein", "jo\u0131n", strings.Repeat("join", 1<<18),
}

// pattern is a kind of moves that are permitted: its words are some that may stand there, or all for the empty string; of the letters of has, s stands for Self, a for Above, i, k and b for the levels; not those of lacks.
type pattern struct {
	rule, sender, was, wants string
	has, lacks               string
}

// permitted are the moves that are permitted: another telling of the chapter's words.
var permitted = []pattern{
	{wants: "join", was: "join", has: "s"},
	{wants: "join", was: "invite", has: "s"},
	{wants: "join", was: "leave knock", rule: "public", has: "s"},
	{wants: "invite", sender: "join", was: "invite leave knock", has: "i", lacks: "s"},
	{wants: "leave", was: "join invite knock", has: "s"},
	{wants: "leave", sender: "join", was: "ban", has: "ab", lacks: "s"},
	{wants: "leave", sender: "join", was: "join invite knock", has: "ak", lacks: "s"},
	{wants: "ban", sender: "join", has: "ab", lacks: "s"},
	{wants: "knock", rule: "knock", was: "leave", has: "s"},
}

// fits tells whether a move is one of a pattern.
func (p pattern) fits(m api.Move) bool {
	in := func(words, word string) bool { return words == "" || slices.Contains(strings.Fields(words), word) }
	flags := flagsOf(m)
	for _, flag := range p.has {
		if !strings.ContainsRune(flags, flag) {
			return false
		}
	}
	return in(p.rule, m.Rule) && in(p.sender, m.Sender) && in(p.was, m.Was) && in(p.wants, m.Wants) && (p.lacks == "" || !strings.ContainsAny(flags, p.lacks))
}

// flagsOf are the letters of what is true of a move.
func flagsOf(m api.Move) string {
	flags := ""
	for i, is := range []bool{m.Self, m.Above, m.Invite, m.Kick, m.Ban} {
		if is {
			flags += "saikb"[i : i+1]
		}
	}
	return flags
}

// wantAllowed is what Allowed answers to a valid move.
func wantAllowed(m api.Move) api.Errno {
	for _, p := range permitted {
		if p.fits(m) {
			return api.OK
		}
	}
	return api.ErrAuth
}

// validMoves are all moves that are valid.
func validMoves() []api.Move {
	var moves []api.Move
	for _, rule := range rules {
		for _, sender := range memberships {
			for _, was := range memberships {
				for _, wants := range memberships {
					for bits := range 32 {
						m := api.Move{Rule: rule, Sender: sender, Was: was, Wants: wants}
						m.Self, m.Invite, m.Kick, m.Ban, m.Above = bits&1 > 0, bits&2 > 0, bits&4 > 0, bits&8 > 0, bits&16 > 0
						moves = append(moves, m)
					}
				}
			}
		}
	}
	return moves
}

// want fails a test unless Check and Allowed answer this.
func want(t *testing.T, m api.Move, check, allowed api.Errno) {
	t.Helper()
	if errno := Check(m); errno != check {
		t.Errorf("Check(%+v) = %d; want %d", m, errno, check)
	}
	if errno := Allowed(m); errno != allowed {
		t.Errorf("Allowed(%+v) = %d; want %d", m, errno, allowed)
	}
}

// Promise 16.1: the chapter's examples.
func TestExamples(t *testing.T) {
	if !Is("knock") || Is("third") {
		t.Errorf("Is = %t and %t", Is("knock"), Is("third"))
	}
	if !Rule("knock") || Rule("ban") {
		t.Errorf("Rule = %t and %t", Rule("knock"), Rule("ban"))
	}
	want(t, api.Move{}, api.ErrForm, api.ErrForm)
	m := api.Move{Rule: "public", Sender: "leave", Was: "leave", Wants: "join", Self: true}
	want(t, m, api.OK, api.OK)
	m.Rule = "invite"
	want(t, m, api.OK, api.ErrAuth)
	want(t, api.Move{Rule: "public", Sender: "join", Was: "join", Wants: "ban", Ban: true, Above: true}, api.OK, api.OK)
}

// Promise 16.1: memberships and rules, and what is neither.
func TestWords(t *testing.T) {
	for _, word := range slices.Concat(memberships, rules, noWords) {
		if Is(word) != slices.Contains(memberships, word) {
			t.Errorf("Is(%.40q) = %t", word, Is(word))
		}
		if Rule(word) != slices.Contains(rules, word) {
			t.Errorf("Rule(%.40q) = %t", word, Rule(word))
		}
	}
}

// Promise 16.1: words that are one byte away from the right ones.
func TestOneByteAway(t *testing.T) {
	for _, word := range slices.Concat(memberships, rules) {
		for at := range len(word) {
			for b := range 256 {
				away := word[:at] + string([]byte{byte(b)})
				for _, other := range []string{away + word[at+1:], away + word[at:], word + away[at:], word[:at], word[at+1:]} {
					if Is(other) != slices.Contains(memberships, other) || Rule(other) != slices.Contains(rules, other) {
						t.Fatalf("Is(%q) = %t, Rule = %t", other, Is(other), Rule(other))
					}
				}
			}
		}
	}
}

// Promise 16.1: each word that is wrong, at each place, in moves that were permitted otherwise, too.
func TestWrong(t *testing.T) {
	right := []api.Move{
		{Rule: "public", Sender: "leave", Was: "leave", Wants: "join", Self: true},
		{Rule: "knock", Sender: "leave", Was: "leave", Wants: "knock", Self: true},
		{Rule: "invite", Sender: "join", Was: "leave", Wants: "invite", Invite: true},
		{Rule: "invite", Sender: "join", Was: "join", Wants: "ban", Invite: true, Kick: true, Ban: true, Above: true},
		{Rule: "invite", Sender: "join", Was: "ban", Wants: "leave", Invite: true, Kick: true, Ban: true, Above: true},
	}
	for _, m := range right {
		want(t, m, api.OK, api.OK)
		for _, word := range append([]string{"public"}, noWords...) {
			for _, set := range []func(m *api.Move){
				func(m *api.Move) { m.Sender = word },
				func(m *api.Move) { m.Was = word },
				func(m *api.Move) { m.Wants = word },
			} {
				wrong := m
				set(&wrong)
				want(t, wrong, api.ErrForm, api.ErrForm)
			}
		}
		for _, word := range append([]string{"join", "leave", "ban"}, noWords...) {
			wrong := m
			wrong.Rule = word
			want(t, wrong, api.ErrForm, api.ErrForm)
		}
	}
}

// Promise 16.1: all valid moves.
func TestAllowed(t *testing.T) {
	for _, m := range validMoves() {
		want(t, m, api.OK, wantAllowed(m))
	}
}

// Promise 16.1: moves next to what is permitted, written out.
func TestEdges(t *testing.T) {
	for _, c := range []struct {
		move api.Move
		want api.Errno
	}{
		{api.Move{Rule: "invite", Sender: "invite", Was: "invite", Wants: "join", Self: true}, api.OK},
		{api.Move{Rule: "knock", Sender: "knock", Was: "knock", Wants: "join", Self: true}, api.ErrAuth},
		{api.Move{Rule: "public", Sender: "knock", Was: "knock", Wants: "join", Self: true}, api.OK},
		{api.Move{Rule: "public", Sender: "ban", Was: "ban", Wants: "join", Self: true}, api.ErrAuth},
		{api.Move{Rule: "invite", Sender: "join", Was: "join", Wants: "join", Self: true}, api.OK},
		{api.Move{Rule: "public", Sender: "join", Was: "leave", Wants: "join", Invite: true, Kick: true, Ban: true, Above: true}, api.ErrAuth},
		{api.Move{Rule: "public", Sender: "leave", Was: "join", Wants: "join", Self: true}, api.OK},
		{api.Move{Rule: "invite", Sender: "join", Was: "invite", Wants: "invite", Invite: true}, api.OK},
		{api.Move{Rule: "public", Sender: "join", Was: "join", Wants: "invite", Invite: true}, api.ErrAuth},
		{api.Move{Rule: "public", Sender: "join", Was: "ban", Wants: "invite", Invite: true, Ban: true, Above: true}, api.ErrAuth},
		{api.Move{Rule: "public", Sender: "join", Was: "leave", Wants: "invite", Kick: true, Ban: true, Above: true}, api.ErrAuth},
		{api.Move{Rule: "public", Sender: "invite", Was: "leave", Wants: "invite", Invite: true}, api.ErrAuth},
		{api.Move{Rule: "public", Sender: "leave", Was: "leave", Wants: "leave", Self: true}, api.ErrAuth},
		{api.Move{Rule: "public", Sender: "ban", Was: "ban", Wants: "leave", Self: true, Ban: true, Kick: true, Above: true}, api.ErrAuth},
		{api.Move{Rule: "public", Sender: "join", Was: "leave", Wants: "leave", Kick: true, Ban: true, Above: true}, api.ErrAuth},
		{api.Move{Rule: "public", Sender: "join", Was: "ban", Wants: "leave", Kick: true, Above: true}, api.ErrAuth},
		{api.Move{Rule: "public", Sender: "join", Was: "ban", Wants: "leave", Ban: true, Above: true}, api.OK},
		{api.Move{Rule: "public", Sender: "join", Was: "join", Wants: "leave", Ban: true, Above: true}, api.ErrAuth},
		{api.Move{Rule: "public", Sender: "join", Was: "join", Wants: "leave", Kick: true}, api.ErrAuth},
		{api.Move{Rule: "public", Sender: "join", Was: "knock", Wants: "leave", Kick: true, Above: true}, api.OK},
		{api.Move{Rule: "public", Sender: "join", Was: "ban", Wants: "ban", Ban: true, Above: true}, api.OK},
		{api.Move{Rule: "public", Sender: "join", Was: "join", Wants: "ban", Self: true, Ban: true, Above: true}, api.ErrAuth},
		{api.Move{Rule: "public", Sender: "join", Was: "leave", Wants: "ban", Ban: true}, api.ErrAuth},
		{api.Move{Rule: "public", Sender: "leave", Was: "join", Wants: "ban", Ban: true, Above: true}, api.ErrAuth},
		{api.Move{Rule: "knock", Sender: "leave", Was: "leave", Wants: "knock", Self: true}, api.OK},
		{api.Move{Rule: "public", Sender: "leave", Was: "leave", Wants: "knock", Self: true}, api.ErrAuth},
		{api.Move{Rule: "knock", Sender: "knock", Was: "knock", Wants: "knock", Self: true}, api.ErrAuth},
		{api.Move{Rule: "knock", Sender: "invite", Was: "invite", Wants: "knock", Self: true}, api.ErrAuth},
		{api.Move{Rule: "knock", Sender: "join", Was: "leave", Wants: "knock", Invite: true, Kick: true, Ban: true, Above: true}, api.ErrAuth},
	} {
		want(t, c.move, api.OK, c.want)
	}
}

// Promise 16.2: a ban changes to leave or ban only, and only by somebody else.
func TestBanned(t *testing.T) {
	for _, m := range validMoves() {
		if m.Was == "ban" && Allowed(m) == api.OK && (m.Self || m.Wants != "leave" && m.Wants != "ban") {
			t.Errorf("Allowed(%+v) = OK", m)
		}
	}
}

// Promise 16.3: whoever changes the membership of somebody else has joined.
func TestByWhom(t *testing.T) {
	for _, m := range validMoves() {
		if !m.Self && Allowed(m) == api.OK && m.Sender != "join" {
			t.Errorf("Allowed(%+v) = OK", m)
		}
	}
}
