package power

import (
	"fmt"
	"maps"
	"math"
	"math/rand"
	"regexp"
	"slices"
	"strconv"
	"strings"
	"testing"
	"unsafe"

	"palaver/api"
)

// annText is the text of the chapter's levels.
const annText = "0 50 0 50 50 50 @ann:0 100"

// pattern is what the text of levels looks like, but for the number and the order of the users: another telling of the chapter's words.
var pattern = regexp.MustCompile(strings.ReplaceAll(`\AN(?: N){5}((?: @[a-z0-9_-]{1,16}:(?:[1-5]?[0-9]|6[0-3]) N)*)\z`, "N", "(?:100|[1-9]?[0-9])"))

// noUsers are texts of no user.
var noUsers = []string{"", "@", "ann", "ann:0", "!ann:0", "!hall:0", "@ann", "@ann:", "@ann:00", "@ann:64", "@ann:-1", "@Ann:0", "@ann:0 ", " @ann:0", "@a b:0", "@abcdefghijklmnopq:0", "@ann:0@ann:0", "@a\x00:0", "@\xff:0"}

// annLevels are the chapter's levels.
func annLevels() api.Levels {
	return with(api.Level{User: "@ann:0", N: 100})
}

// with are the levels of a new room with these users.
func with(users ...api.Level) api.Levels {
	return api.Levels{State: 50, Kick: 50, Ban: 50, Redact: 50, Users: users}
}

// crowd are so many users, in their order.
func crowd(many int) []api.Level {
	var users []api.Level
	for i := range many {
		users = append(users, api.Level{User: fmt.Sprintf("@u%03d:%d", i, i%64), N: i * 7 % 101})
	}
	return users
}

// setters set one of the six numbers each, in the order of the text.
func setters() []func(l *api.Levels, n int) {
	return []func(l *api.Levels, n int){
		func(l *api.Levels, n int) { l.All = n },
		func(l *api.Levels, n int) { l.State = n },
		func(l *api.Levels, n int) { l.Invite = n },
		func(l *api.Levels, n int) { l.Kick = n },
		func(l *api.Levels, n int) { l.Ban = n },
		func(l *api.Levels, n int) { l.Redact = n },
	}
}

// clone are levels in memory of their own.
func clone(l api.Levels) api.Levels {
	l.Users = slices.Clone(l.Users)
	return l
}

// same tells whether levels are alike.
func same(a, b api.Levels) bool {
	return slices.Equal(sixOf(a), sixOf(b)) && slices.Equal(a.Users, b.Users)
}

// sixOf are the six numbers of levels as a list.
func sixOf(l api.Levels) []int {
	return []int{l.All, l.State, l.Invite, l.Kick, l.Ban, l.Redact}
}

// known are valid levels with their texts.
func known() map[string]api.Levels {
	texts := map[string]api.Levels{
		annText:                           annLevels(),
		"0 0 0 0 0 0":                     {},
		"1 2 3 4 5 6":                     {All: 1, State: 2, Invite: 3, Kick: 4, Ban: 5, Redact: 6},
		"9 10 99 100 11 90":               {All: 9, State: 10, Invite: 99, Kick: 100, Ban: 11, Redact: 90},
		"100 100 100 100 100 100 @a:63 0": {All: 100, State: 100, Invite: 100, Kick: 100, Ban: 100, Redact: 100, Users: []api.Level{{User: "@a:63"}}},
		"0 50 0 50 50 50 @a:1 5 @a:10 6 @a:2 7 @ab:0 8":     with([]api.Level{{User: "@a:1", N: 5}, {User: "@a:10", N: 6}, {User: "@a:2", N: 7}, {User: "@ab:0", N: 8}}...),
		"0 50 0 50 50 50 @-:0 1 @0:0 1 @_:0 1 @a-a:0 1":     with([]api.Level{{User: "@-:0", N: 1}, {User: "@0:0", N: 1}, {User: "@_:0", N: 1}, {User: "@a-a:0", N: 1}}...),
		"0 50 0 50 50 50 @abcdefghijklmnop:63 100 @b:9 100": with([]api.Level{{User: "@abcdefghijklmnop:63", N: 100}, {User: "@b:9", N: 100}}...),
	}
	text := "0 50 0 50 50 50"
	for i, u := range crowd(api.MaxUsers) {
		texts[text] = with(crowd(i)...)
		text += " " + u.User + " " + strconv.Itoa(u.N)
	}
	texts[text] = with(crowd(api.MaxUsers)...)
	return texts
}

// wrongLevels are levels that are not valid.
func wrongLevels() []api.Levels {
	wrong := []api.Levels{
		with(crowd(api.MaxUsers + 1)...),
		with(crowd(2 * api.MaxUsers)...),
		with(api.Level{User: "@bob:1", N: 1}, api.Level{User: "@ann:0", N: 1}),
		with(api.Level{User: "@ann:0", N: 1}, api.Level{User: "@ann:0", N: 1}),
		with(api.Level{User: "@ann:0", N: 1}, api.Level{User: "@ann:0", N: 2}),
		with(api.Level{User: "@ann:2"}, api.Level{User: "@ann:10"}),
		with(api.Level{User: "@_:0"}, api.Level{User: "@0:0"}),
		with(api.Level{User: "@ab:0"}, api.Level{User: "@a:0"}),
		with(api.Level{User: "@a:0"}, api.Level{User: "@c:0"}, api.Level{User: "@b:0"}),
		with(api.Level{}),
	}
	for _, n := range []int{-1, api.MaxLevel + 1, -100, 200, 256, 1<<32 + 50, math.MaxInt, math.MinInt} {
		for _, set := range setters() {
			l := annLevels()
			set(&l, n)
			wrong = append(wrong, l)
		}
		for at := range 3 {
			l := with(crowd(3)...)
			l.Users[at].N = n
			wrong = append(wrong, l)
		}
	}
	for _, user := range noUsers {
		wrong = append(wrong, with(api.Level{User: user, N: 1}))
	}
	return wrong
}

// wrongTexts are texts of no levels.
func wrongTexts() []string {
	wrong := []string{
		"", " ", "0", "0 50", "0 50 0 50 50", "0 50 0 50 50 ", " 0 50 0 50 50", "0 50 0 50 50 50 ", " 0 50 0 50 50 50", "0 50 0 50 50 50 0", "0 50 0 50 50 50 0 0", "0 50 0 50 50 50\n", "0 50 0 50 50 50 50",
		"0  50 0 50 50 50", "0\t50 0 50 50 50", "0 50 0 50 50,50", "0 50 0 50 50 @ann:0 100", "0 50 0 50 50 50 50 @ann:0 100",
		"0 50 0 50 50 50 @ann:0", "0 50 0 50 50 50 @ann:0 ", "0 50 0 50 50 50 @ann:0 100 ", "0 50 0 50 50 50 @ann:0 100\x00", "0 50 0 50 50 50 @ann:0  100", "0 50 0 50 50 50  @ann:0 100", " " + annText, annText + " @bob:1", annText + " @bob:1 ", annText + " 5", annText + " ",
		"0 50 0 50 50 50 100 @ann:0", "@ann:0 100 0 50 0 50 50 50", "0 50 0 50 50 50 @ann:0 @bob:1",
		"0 50 0 50 50 50 @ann:0 100 @ann:0 100", "0 50 0 50 50 50 @ann:0 100 @ann:0 50", "0 50 0 50 50 50 @bob:1 100 @ann:0 100", "0 50 0 50 50 50 @a:2 1 @a:10 1", "0 50 0 50 50 50 @ab:0 1 @a:0 1",
		annText + annText, annText + " " + annText, strings.Repeat(" ", 1<<20), strings.Repeat("0 ", 1<<20), "0 50 0 50 50 50" + strings.Repeat(" @ann:0 100", 1<<18),
	}
	for _, n := range []string{"", "-1", "-0", "+0", "+5", "00", "05", "050", "0050", "101", "110", "1000", "0x5", "5.0", "5e1", "1_0", "a", "\u0665", "\xff", "5\x00", " 5", "4294967296", "18446744073709551616", "18446744073709551621", strings.Repeat("0", 1000) + "5", strings.Repeat("9", 1000)} {
		for at := range 8 {
			words := strings.Split(annText, " ")
			if at != 6 {
				words[at] = n
				wrong = append(wrong, strings.Join(words, " "))
			}
		}
	}
	for _, user := range noUsers {
		wrong = append(wrong, "0 50 0 50 50 50 "+user+" 100", annText+" "+user+" 100")
	}
	text := "0 50 0 50 50 50"
	for i, u := range crowd(2*api.MaxUsers + 2) {
		text += " " + u.User + " " + strconv.Itoa(u.N)
		if i >= api.MaxUsers {
			wrong = append(wrong, text)
		}
	}
	return wrong
}

// wantText fails a test unless Text answers this.
func wantText(t *testing.T, l api.Levels, want string, wantErrno api.Errno) {
	t.Helper()
	if got, errno := Text(l); got != want || errno != wantErrno {
		t.Errorf("Text(%#v) = %q, %d; want %q, %d", l, got, errno, want, wantErrno)
	}
}

// wantParse fails a test unless Parse answers this.
func wantParse(t *testing.T, text string, want api.Levels, wantErrno api.Errno) {
	t.Helper()
	got, errno := Parse(text)
	if !same(got, want) || errno != wantErrno {
		t.Errorf("Parse(%.600q) = %#v, %d; want %#v, %d", text, got, errno, want, wantErrno)
	}
}

// wantChange fails a test unless Change answers this.
func wantChange(t *testing.T, was, is api.Levels, user string, want api.Errno) {
	t.Helper()
	if errno := Change(was, is, user); errno != want {
		t.Errorf("Change(%#v, %#v, %q) = %d; want %d", was, is, user, errno, want)
	}
}

// Promises 15.1 and 15.2: the chapter's examples.
func TestExamples(t *testing.T) {
	l := annLevels()
	wantText(t, l, annText, api.OK)
	wantParse(t, annText, l, api.OK)
	wantParse(t, "0 50 0 50 50 50 @ann:0", api.Levels{}, api.ErrCode)
	if errno := Check(api.Levels{All: 101}); errno != api.ErrForm {
		t.Errorf("Check of All 101 = %d", errno)
	}
	if first := First("@ann:0"); !same(first, l) {
		t.Errorf("First = %#v", first)
	}
	if ann, bob := Of(l, "@ann:0"), Of(l, "@bob:1"); ann != 100 || bob != 0 {
		t.Errorf("Of = %d and %d", ann, bob)
	}
	both := with(api.Level{User: "@ann:0", N: 100}, api.Level{User: "@bob:1", N: 100})
	wantChange(t, l, both, "@ann:0", api.OK)
	wantChange(t, l, both, "@bob:1", api.ErrAuth)
	wantChange(t, both, l, "@ann:0", api.ErrAuth)
}

// Promise 15.1.
func TestKnown(t *testing.T) {
	for text, l := range known() {
		if errno := Check(l); errno != api.OK {
			t.Errorf("Check(%#v) = %d; want OK", l, errno)
		}
		wantText(t, l, text, api.OK)
		wantParse(t, text, l, api.OK)
	}
}

// Promise 15.1: what is not valid is refused, also where it is one of two to be changed.
func TestWrong(t *testing.T) {
	for _, l := range wrongLevels() {
		if errno := Check(l); errno != api.ErrForm {
			t.Errorf("Check(%#v) = %d; want ErrForm", l, errno)
		}
		wantText(t, l, "", api.ErrForm)
		for _, user := range []string{"@ann:0", "@bob:1", ""} {
			wantChange(t, l, annLevels(), user, api.ErrForm)
			wantChange(t, annLevels(), l, user, api.ErrForm)
			wantChange(t, l, l, user, api.ErrForm)
		}
	}
}

// Promise 15.1: each number about the limits, at each place.
func TestNumbers(t *testing.T) {
	for n := -2; n <= api.MaxLevel+2; n++ {
		want := api.OK
		if n < 0 || n > api.MaxLevel {
			want = api.ErrForm
		}
		for at, set := range setters() {
			l := annLevels()
			set(&l, n)
			words := strings.Split(annText, " ")
			words[at] = strconv.Itoa(n)
			wantNumber(t, l, strings.Join(words, " "), want)
		}
		wantNumber(t, with(api.Level{User: "@ann:0", N: n}), "0 50 0 50 50 50 @ann:0 "+strconv.Itoa(n), want)
	}
}

// wantNumber fails a test unless levels and their text are taken, or not.
func wantNumber(t *testing.T, l api.Levels, text string, want api.Errno) {
	t.Helper()
	if errno := Check(l); errno != want {
		t.Errorf("Check(%#v) = %d; want %d", l, errno, want)
	}
	if want == api.OK {
		wantText(t, l, text, api.OK)
		wantParse(t, text, l, api.OK)
	} else {
		wantText(t, l, "", api.ErrForm)
		wantParse(t, text, api.Levels{}, api.ErrCode)
	}
}

// Promise 15.1.
func TestParseWrong(t *testing.T) {
	for _, text := range wrongTexts() {
		if _, errno := Parse(text); errno != api.ErrCode {
			t.Errorf("Parse(%.60q) = %d; want ErrCode", text, errno)
		}
		backAndThere(t, text)
	}
}

// byPattern tells whether a text is that of levels, by the pattern.
func byPattern(text string) bool {
	parts := pattern.FindStringSubmatch(text)
	if parts == nil {
		return false
	}
	var users []string
	for i, word := range strings.Fields(parts[1]) {
		if i%2 == 0 {
			users = append(users, word)
		}
	}
	unique := slices.Compact(slices.Sorted(slices.Values(users)))
	return len(users) <= api.MaxUsers && slices.Equal(unique, users)
}

// backAndThere fails a test if Parse takes another text than the pattern, or one that is not the Text of what it answers; it tells whether Parse took it.
func backAndThere(t *testing.T, text string) bool {
	t.Helper()
	l, errno := Parse(text)
	if taken := errno == api.OK; taken != byPattern(text) {
		t.Errorf("Parse(%.600q) = %#v, %d", text, l, errno)
	}
	if errno == api.OK {
		wantText(t, l, text, api.OK)
	} else {
		wantParse(t, text, api.Levels{}, api.ErrCode)
	}
	return errno == api.OK
}

// Promise 15.1: texts that are one byte away from those of levels.
func TestOneByteAway(t *testing.T) {
	for text := range known() {
		if len(text) > 80 {
			continue
		}
		for at := range len(text) + 1 {
			for b := range 256 {
				away := text[:at] + string([]byte{byte(b)})
				backAndThere(t, away+text[at:])
				if at < len(text) {
					backAndThere(t, away+text[at+1:])
				}
			}
			backAndThere(t, text[:at])
			backAndThere(t, text[at:])
			if at < len(text) {
				backAndThere(t, text[:at]+text[at+1:])
			}
		}
	}
}

// Promise 15.1: texts of words that may be wrong each.
func TestBackAndThere(t *testing.T) {
	source := rand.New(rand.NewSource(1))
	accepted := 0
	for range 50000 {
		var words []string
		for range 6 + source.Intn(20)/19 {
			words = append(words, someNumber(source))
		}
		name := 0
		for range source.Intn(4) {
			name += source.Intn(3) + source.Intn(5)
			words = append(words, fmt.Sprintf("@%02d:%d", name, source.Intn(66)), someNumber(source))
		}
		if backAndThere(t, strings.Join(words, " ")) {
			accepted++
		}
	}
	if accepted < 5000 {
		t.Errorf("only %d texts were accepted", accepted)
	}
}

// someNumber is a word that is a number mostly.
func someNumber(source *rand.Rand) string {
	words := []string{"0", "1", "9", "10", "49", "50", "51", "99", "100"}
	if source.Intn(40) == 0 {
		words = []string{"101", "-1", "00", "+1", "", "x", "@a:0", "01"}
	}
	return words[source.Intn(len(words))]
}

// Promise 15.1.
func FuzzBackAndThere(f *testing.F) {
	for text := range known() {
		f.Add(text)
	}
	for _, text := range wrongTexts() {
		if len(text) < 1000 {
			f.Add(text)
		}
	}
	f.Fuzz(func(t *testing.T, text string) { backAndThere(t, text) })
}

// Promise 15.1.
func TestFirst(t *testing.T) {
	for _, user := range []string{"@ann:0", "@bob:1", "@a:63", "@abcdefghijklmnop:63"} {
		got := First(user)
		if want := with(api.Level{User: user, N: api.MaxLevel}); !same(got, want) || Check(got) != api.OK {
			t.Errorf("First(%q) = %#v; want %#v", user, got, want)
		}
	}
	for _, user := range append(slices.Clone(noUsers), strings.Repeat("a", 1<<20)) {
		got := First(user)
		if !same(got, with()) || Check(got) != api.OK {
			t.Errorf("First(%.40q) = %#v; want nobody in it", user, got)
		}
	}
}

// Promise 15.1: the first of the users counts, also in levels that are not valid.
func TestOf(t *testing.T) {
	l := with(api.Level{User: "@cy:2", N: 7}, api.Level{User: "@ann:0"}, api.Level{User: "@cy:2", N: 9}, api.Level{User: "", N: -3}, api.Level{User: "bob", N: 1 << 40})
	l.All = 12
	for user, want := range map[string]int{"@cy:2": 7, "@ann:0": 0, "": -3, "bob": 1 << 40, "@bob:1": 12, "@cy:20": 12, "@cy:": 12, "@cy:2 ": 12, "cy:2": 12} {
		if got := Of(l, user); got != want {
			t.Errorf("Of(%#v, %q) = %d; want %d", l, user, got, want)
		}
	}
	for _, all := range []int{0, 1, 100, 101, -1, math.MaxInt, math.MinInt} {
		l.All = all
		if got := Of(l, "@bob:1"); got != all {
			t.Errorf("Of(%#v, ..) = %d; want %d", l, got, all)
		}
	}
	for i, u := range crowd(40) {
		if got := Of(with(crowd(40)...), u.User); got != crowd(40)[i].N {
			t.Errorf("Of(crowd, %q) = %d; want %d", u.User, got, crowd(40)[i].N)
		}
	}
	if got := Of(api.Levels{}, "@ann:0"); got != 0 {
		t.Errorf("Of(no levels) = %d", got)
	}
}

// Promise 15.2: each of the six numbers, up to the user's level and above it.
func TestChangeNumbers(t *testing.T) {
	edges := []int{0, 1, 49, 50, 51, 99, 100}
	for _, set := range setters() {
		for _, level := range edges {
			for _, from := range edges {
				for _, to := range edges {
					was, is := with(api.Level{User: "@ann:0", N: level}), with(api.Level{User: "@ann:0", N: level})
					set(&was, from)
					set(&is, to)
					want := api.OK
					if from != to && (from > level || to > level) {
						want = api.ErrAuth
					}
					wantChange(t, was, is, "@ann:0", want)
				}
			}
		}
	}
}

// Promise 15.2: users, at the level of the one who changes them and about it.
func TestChangeUsers(t *testing.T) {
	ann := func(n int) api.Level { return api.Level{User: "@ann:0", N: n} }
	bob := func(n int) api.Level { return api.Level{User: "@bob:1", N: n} }
	all := func(n int, l api.Levels) api.Levels { l.All = n; return l }
	for _, c := range []struct {
		was, is api.Levels
		want    api.Errno
	}{
		{with(ann(50)), with(ann(50)), api.OK},
		{with(ann(50), bob(49)), with(ann(50), bob(50)), api.OK},
		{with(ann(50), bob(49)), with(ann(50), bob(51)), api.ErrAuth},
		{with(ann(50), bob(49)), with(ann(50)), api.OK},
		{with(ann(50), bob(50)), with(ann(50), bob(49)), api.ErrAuth},
		{with(ann(50), bob(50)), with(ann(50)), api.ErrAuth},
		{with(ann(50), bob(51)), with(ann(50), bob(50)), api.ErrAuth},
		{with(ann(50), bob(51)), with(ann(50), bob(51)), api.OK},
		{with(ann(50), bob(51)), with(ann(49), bob(51)), api.OK},
		{with(ann(50), bob(50)), with(ann(0), bob(50)), api.OK},
		{with(ann(50), bob(50)), with(bob(50)), api.OK},
		{with(ann(50)), with(ann(51)), api.ErrAuth},
		{with(ann(50)), with(), api.OK},
		{with(), with(ann(0)), api.OK},
		{with(), with(ann(1)), api.ErrAuth},
		{with(), with(bob(0)), api.ErrAuth},
		{with(ann(1)), with(ann(1), bob(0)), api.OK},
		{with(ann(1)), with(ann(1), bob(1)), api.OK},
		{with(ann(1)), with(ann(1), bob(2)), api.ErrAuth},
		{all(30, with(ann(30))), all(30, with(ann(30), bob(20))), api.ErrAuth},
		{all(30, with(ann(31))), all(30, with(ann(31), bob(20))), api.OK},
		{all(30, with(ann(20))), all(30, with()), api.ErrAuth},
		{all(30, with(ann(20))), all(30, with(ann(20), bob(10))), api.ErrAuth},
		{all(30, with(ann(40), bob(20))), all(30, with(ann(40))), api.OK},
		{all(30, with(ann(20), bob(10))), all(30, with(ann(20))), api.ErrAuth},
		{all(30, with(bob(100))), all(20, with(bob(100))), api.OK},
		{all(30, with(bob(100))), all(31, with(bob(100))), api.ErrAuth},
		{all(0, with(ann(40))), all(40, with()), api.OK},
		{all(0, with(ann(40))), all(41, with()), api.ErrAuth},
		{all(0, with(ann(40), bob(30))), all(40, with(ann(40))), api.OK},
	} {
		wantChange(t, c.was, c.is, "@ann:0", c.want)
	}
}

// Promise 15.2: whoever is no user has the level of everybody.
func TestChangeByNobody(t *testing.T) {
	was, is := annLevels(), annLevels()
	was.All, is.All = 10, 5
	for _, user := range append([]string{"@zed:9"}, noUsers...) {
		wantChange(t, was, is, user, api.OK)
		wantChange(t, is, was, user, api.ErrAuth)
		wantChange(t, was, with(), user, api.ErrAuth)
		wantChange(t, was, was, user, api.OK)
	}
}

// wantedChange is what Change answers to valid levels: another telling of the chapter's words.
func wantedChange(was, is api.Levels, user string) api.Errno {
	old, now := lists(was), lists(is)
	level := levelIn(was, old, user)
	for i, n := range sixOf(was) {
		if m := sixOf(is)[i]; m != n && (n > level || m > level) {
			return api.ErrAuth
		}
	}
	everybody := maps.Clone(old)
	maps.Copy(everybody, now)
	for who := range everybody {
		n, inOld := old[who]
		m, inNow := now[who]
		if inOld && inNow && n == m {
			continue
		}
		switch had := levelIn(was, old, who); {
		case had > level:
			return api.ErrAuth
		case had == level && who != user:
			return api.ErrAuth
		case levelIn(is, now, who) > level:
			return api.ErrAuth
		}
	}
	return api.OK
}

// lists are the users of levels by their texts.
func lists(l api.Levels) map[string]int {
	users := map[string]int{}
	for _, u := range l.Users {
		users[u.User] = u.N
	}
	return users
}

// levelIn is the level of a user in levels with these users.
func levelIn(l api.Levels, users map[string]int, user string) int {
	if n, is := users[user]; is {
		return n
	}
	return l.All
}

// smallLevels are all levels of some numbers up to 3 and of two users.
func smallLevels() []api.Levels {
	var all []api.Levels
	for i := range 3 * 2 * 5 * 5 {
		l := api.Levels{All: i % 3, Ban: i / 3 % 2 * 2}
		for at, n := range []int{i / 6 % 5, i / 30} {
			if n < 4 {
				l.Users = append(l.Users, api.Level{User: []string{"@ann:0", "@bob:1"}[at], N: n})
			}
		}
		all = append(all, l)
	}
	return all
}

// Promises 15.2 and 15.4: all changes from small levels to small levels.
func TestChangeSmall(t *testing.T) {
	permitted := 0
	for _, was := range smallLevels() {
		for _, is := range smallLevels() {
			for _, user := range []string{"@ann:0", "@bob:1", "@zed:9"} {
				wantChange(t, was, is, user, wantedChange(was, is, user))
				noHigher(t, was, is, user)
				if Change(was, is, user) == api.OK {
					permitted++
				}
			}
		}
	}
	if permitted < 1000 {
		t.Errorf("only %d changes were permitted", permitted)
	}
}

// Promises 15.2 and 15.4: changes of many users by some of them.
func TestChangeRandom(t *testing.T) {
	source := rand.New(rand.NewSource(1))
	permitted := 0
	for range 30000 {
		was := someLevels(source)
		is := clone(was)
		for range source.Intn(4) {
			is = turned(source, is)
		}
		user := fmt.Sprintf("@u%02d:0", source.Intn(25))
		wantChange(t, was, is, user, wantedChange(was, is, user))
		noHigher(t, was, is, user)
		if Change(was, is, user) == api.OK && !same(was, is) {
			permitted++
		}
	}
	if permitted < 1000 {
		t.Errorf("only %d changes were permitted", permitted)
	}
}

// someLevels are valid levels of random numbers.
func someLevels(source *rand.Rand) api.Levels {
	l := api.Levels{All: source.Intn(3) * 20}
	for _, set := range setters()[1:] {
		set(&l, source.Intn(101))
	}
	for i := range 24 {
		if len(l.Users) < api.MaxUsers && source.Intn(2) == 0 {
			l.Users = append(l.Users, api.Level{User: fmt.Sprintf("@u%02d:0", i), N: source.Intn(11) * 10})
		}
	}
	return l
}

// turned are levels of which one number, or one user, is another, or gone.
func turned(source *rand.Rand, l api.Levels) api.Levels {
	l = clone(l)
	if len(l.Users) == 0 || source.Intn(3) == 0 {
		setters()[source.Intn(6)](&l, source.Intn(101))
		return l
	}
	at := source.Intn(len(l.Users))
	if source.Intn(2) == 0 {
		l.Users[at].N = source.Intn(11) * 10
		return l
	}
	l.Users = slices.Delete(l.Users, at, at+1)
	return l
}

// noHigher fails a test if by a permitted change somebody comes above the user, or somebody who was above comes to another level.
func noHigher(t *testing.T, was, is api.Levels, user string) {
	t.Helper()
	if Change(was, is, user) != api.OK {
		return
	}
	level := Of(was, user)
	everybody := []string{user, "@nobody:5", ""}
	for _, u := range append(slices.Clone(was.Users), is.Users...) {
		everybody = append(everybody, u.User)
	}
	for _, who := range everybody {
		had, has := Of(was, who), Of(is, who)
		if max(had, has) > level && had != has {
			t.Errorf("Change(%#v, %#v, %q) is permitted: %q has %d, and had %d", was, is, user, who, has, had)
		}
	}
}

// Promise 15.3: a change of what a call answers changes neither its argument nor what comes next.
func TestNewMemory(t *testing.T) {
	l, _ := Parse(annText)
	l.Users[0] = api.Level{}
	wantParse(t, annText, annLevels(), api.OK)
	First("@ann:0").Users[0] = api.Level{}
	if first := First("@ann:0"); !same(first, annLevels()) {
		t.Errorf("First = %#v after a change of what it answered", first)
	}
	l = with(crowd(3)...)
	ahead := clone(l)
	Text(l)
	Of(l, "@u001:1")
	Check(l)
	Change(l, annLevels(), "@u001:1")
	Change(annLevels(), l, "@u001:1")
	if !same(l, ahead) {
		t.Errorf("levels were changed to %#v", l)
	}
}

// Promise 15.3: nor do texts lie in an argument's memory.
func TestNewTexts(t *testing.T) {
	text := strings.Clone(annText)
	l, _ := Parse(text)
	apart(t, "Parse", text, l.Users[0].User)
	again, _ := Text(l)
	apart(t, "Text", text, again)
	apart(t, "Text", l.Users[0].User, again)
	user := strings.Clone("@ann:0")
	apart(t, "First", user, First(user).Users[0].User)
}

// apart fails a test if a result lies inside an argument's memory.
func apart(t *testing.T, call, argument, result string) {
	t.Helper()
	from := uintptr(unsafe.Pointer(unsafe.StringData(argument)))
	at := uintptr(unsafe.Pointer(unsafe.StringData(result)))
	if from <= at && at < from+uintptr(len(argument)) {
		t.Errorf("%s: the result lies in the argument's memory", call)
	}
}
