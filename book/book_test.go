package book

import (
	"math"
	"math/rand"
	"slices"
	"testing"

	"palaver/api"
	"palaver/key"
)

// grant is a grant of a server from a time to a time.
func grant(server int, from, to int64) api.Grant {
	return api.Grant{Server: server, From: from, To: to}
}

// full is a book that has all the grants that it may have: eight of each of 32 servers, with a time between any two.
func full() []api.Grant {
	var b []api.Grant
	for i := range api.MaxGrants {
		from := int64(i%8) * 4
		b = append(b, api.Grant{Server: i / 8, From: from, To: from + 2, High: i % 8, Root: api.Hash{byte(i)}})
	}
	return b
}

// rightGrants are grants that are valid.
func rightGrants() []api.Grant {
	return []api.Grant{
		{},
		grant(63, 0, 0),
		grant(62, 5, 5),
		grant(1, 0, 1<<40),
		grant(1, 1<<40, 1<<40),
		grant(1, 1<<40-1, 1<<40),
		{Server: 1, From: 5, To: 9, High: 7},
		{Server: 1, From: 5, To: 9, High: 6, Root: api.Hash{0xff, 31: 0xff}},
	}
}

// wrongGrants are grants that are not valid.
func wrongGrants() []api.Grant {
	return []api.Grant{
		grant(-1, 5, 9),
		grant(64, 5, 9),
		grant(math.MinInt, 5, 9),
		grant(math.MaxInt, 5, 9),
		grant(1<<32, 5, 9),
		grant(1, -1, 9),
		grant(1, -1, -1),
		grant(1, -9, -5),
		grant(1, math.MinInt64, 9),
		grant(1, 9, 8),
		grant(1, 5, -1),
		grant(1, math.MaxInt64, 9),
		grant(1, 5, math.MinInt64),
		grant(1, 5, 1<<40+1),
		grant(1, 1<<40+1, 1<<40+1),
		grant(1, 5, math.MaxInt64),
		{Server: 1, From: 5, To: 9, High: -1},
		{Server: 1, From: 5, To: 9, High: 8},
		{Server: 1, From: 5, To: 9, High: math.MinInt},
		{Server: 1, From: 5, To: 9, High: math.MaxInt},
	}
}

// wrongBooks are books that are not valid.
func wrongBooks() [][]api.Grant {
	books := [][]api.Grant{
		{grant(2, 5, 9), grant(1, 5, 9)},
		{grant(2, 5, 9), grant(1, 10, 19)},
		{grant(2, 5, 9), grant(2, 5, 9)},
		{grant(2, 5, 9), grant(2, 9, 9)},
		{grant(2, 5, 9), grant(2, 7, 19)},
		{grant(2, 5, 9), grant(2, 0, 4)},
		{grant(2, 5, 9), grant(2, 0, 5)},
		{grant(2, 5, 9), grant(2, 6, 8)},
		{grant(0, 5, 9), grant(1, 0, 4), grant(1, 4, 4)},
		{grant(1, 5, 9), grant(2, 5, 9), grant(1, 10, 10)},
		append(full(), grant(63, 0, 0)),
		append(full(), grant(63, 0, 0), grant(63, 1, 1)),
	}
	for _, g := range wrongGrants() {
		books = append(books,
			[]api.Grant{g},
			[]api.Grant{grant(0, 0, 0), g},
			[]api.Grant{grant(0, 0, 0), g, grant(63, 0, 0)},
			[]api.Grant{g, grant(63, 0, 0)})
	}
	return books
}

// wantAt are the grants of a server at a time.
func wantAt(b []api.Grant, server int, at int64) []api.Grant {
	return slices.DeleteFunc(slices.Clone(b), func(g api.Grant) bool {
		return g.Server != server || at < g.From || at > g.To
	})
}

// Promise 6.1.
func TestCheck(t *testing.T) {
	books := [][]api.Grant{
		nil,
		{},
		{grant(1, 5, 9), grant(2, 5, 9)},
		{grant(1, 5, 9), grant(2, 0, 4)},
		{grant(2, 5, 9), grant(2, 10, 10), grant(2, 11, 19)},
		{grant(2, 0, 0), grant(2, 1, 1), grant(2, 1<<40, 1<<40)},
		{grant(0, 0, 1<<40), grant(63, 0, 1<<40)},
		full(),
	}
	for _, g := range rightGrants() {
		books = append(books, []api.Grant{g})
	}
	for _, b := range books {
		if errno := Check(b); errno != api.OK {
			t.Errorf("Check(%v) = %d; want OK", b, errno)
		}
	}
	for _, b := range wrongBooks() {
		if errno := Check(b); errno != api.ErrForm {
			t.Errorf("Check(%v) = %d; want ErrForm", b, errno)
		}
	}
}

// Promise 6.1: a grant comes to its place, whatever the order in which they come.
func TestAdd(t *testing.T) {
	source := rand.New(rand.NewSource(1))
	want := []api.Grant{
		grant(0, 0, 1<<40),
		{Server: 1, From: 0, To: 4, High: 3, Root: api.Hash{1}},
		grant(1, 5, 5), grant(1, 6, 9), grant(1, 20, 29), grant(1, 1<<40, 1<<40),
		grant(2, 0, 0), grant(2, 3, 4),
		{Server: 63, From: 5, To: 9, High: 7, Root: api.Hash{2}},
	}
	for range 200 {
		var b []api.Grant
		for _, i := range source.Perm(len(want)) {
			var errno api.Errno
			if b, errno = Add(b, want[i]); errno != api.OK {
				t.Fatalf("adding %v: %d", want[i], errno)
			}
		}
		if !slices.Equal(b, want) {
			t.Fatalf("the book is %v; want %v", b, want)
		}
	}
}

// Promise 6.1: the chapter's example.
func TestAddExample(t *testing.T) {
	g, h := grant(2, 5, 9), grant(1, 5, 9)
	b, errno := Add(nil, g)
	if !slices.Equal(b, []api.Grant{g}) || errno != api.OK {
		t.Errorf("adding g = %v, %d", b, errno)
	}
	b, errno = Add(b, h)
	if !slices.Equal(b, []api.Grant{h, g}) || errno != api.OK {
		t.Errorf("adding h = %v, %d", b, errno)
	}
	c, errno := Add(b, grant(2, 9, 9))
	if !slices.Equal(c, b) || errno != api.ErrTwice {
		t.Errorf("adding what is there = %v, %d; want ErrTwice", c, errno)
	}
}

// Promise 6.1: a time in common is one of the same server, and one is enough.
func TestAddTwice(t *testing.T) {
	b := []api.Grant{grant(1, 0, 1<<40), grant(2, 5, 9), grant(2, 20, 29), grant(3, 0, 1<<40)}
	for from := int64(0); from < 35; from++ {
		for to := from; to < 35; to++ {
			g := grant(2, from, to)
			apart := to < 5 || from > 9 && to < 20 || from > 29
			got, errno := Add(b, g)
			if apart {
				if errno != api.OK || Check(got) != api.OK || len(got) != 5 || !slices.Contains(got, g) {
					t.Errorf("adding %v = %v, %d", g, got, errno)
				}
				continue
			}
			if !slices.Equal(got, b) || errno != api.ErrTwice {
				t.Errorf("adding %v = %v, %d; want ErrTwice", g, got, errno)
			}
		}
	}
}

// Promise 6.1: the first error that applies, with the book as it was.
func TestAddWrong(t *testing.T) {
	for _, b := range wrongBooks() {
		for _, g := range []api.Grant{grant(40, 0, 0), grant(2, 9, 9), grant(64, 0, 0)} {
			if got, errno := Add(b, g); got != nil || errno != api.ErrForm {
				t.Errorf("adding to %v = %v, %d; want ErrForm and no grants", b, got, errno)
			}
		}
	}
	for _, g := range wrongGrants() {
		for _, b := range [][]api.Grant{nil, {grant(1, 0, 1<<40)}, full()} {
			if got, errno := Add(b, g); !slices.Equal(got, b) || errno != api.ErrForm {
				t.Errorf("adding %v = %v, %d; want ErrForm", g, got, errno)
			}
		}
	}
	for _, g := range []api.Grant{grant(63, 0, 0), grant(0, 0, 0), grant(31, 28, 40), grant(5, 3, 3)} {
		if got, errno := Add(full(), g); !slices.Equal(got, full()) || errno != api.ErrFull {
			t.Errorf("adding %v to a full book = %d grants, %d; want ErrFull", g, len(got), errno)
		}
	}
}

// Promise 6.1: the last grant that a book has room for.
func TestAddLast(t *testing.T) {
	for _, i := range []int{0, 1, 8, 100, 255} {
		b := slices.Delete(full(), i, i+1)
		if got, errno := Add(b, full()[i]); !slices.Equal(got, full()) || errno != api.OK {
			t.Errorf("adding grant %d of a full book = %d grants, %d", i, len(got), errno)
		}
		other := full()[(i+1)%api.MaxGrants]
		if got, errno := Add(b, other); !slices.Equal(got, b) || errno != api.ErrTwice {
			t.Errorf("adding %v, which is there = %d grants, %d; want ErrTwice", other, len(got), errno)
		}
	}
}

// Promise 6.2.
func TestFind(t *testing.T) {
	for _, b := range [][]api.Grant{nil, {grant(2, 5, 9)}, full()} {
		for server := -1; server <= 64; server++ {
			for at := int64(-1); at < 35; at++ {
				want := append(wantAt(b, server, at), api.Grant{})
				wantErrno := api.OK
				if len(want) == 1 {
					wantErrno = api.ErrNone
				}
				if got, errno := Find(b, server, at); got != want[0] || errno != wantErrno {
					t.Errorf("Find(.., %d, %d) = %v, %d; want %v, %d", server, at, got, errno, want[0], wantErrno)
				}
			}
		}
	}
}

// Promise 6.2.
func TestFindFar(t *testing.T) {
	g := grant(63, 1<<40-1, 1<<40)
	b := []api.Grant{grant(0, 0, 0), g}
	for _, c := range []struct {
		server int
		at     int64
		want   api.Grant
		errno  api.Errno
	}{
		{63, 1<<40 - 2, api.Grant{}, api.ErrNone},
		{63, 1<<40 - 1, g, api.OK},
		{63, 1 << 40, g, api.OK},
		{63, 1<<40 + 1, api.Grant{}, api.ErrNone},
		{63, math.MaxInt64, api.Grant{}, api.ErrNone},
		{63, math.MinInt64, api.Grant{}, api.ErrNone},
		{math.MinInt, 0, api.Grant{}, api.ErrNone},
		{math.MaxInt, 0, api.Grant{}, api.ErrNone},
		{1 << 32, 0, api.Grant{}, api.ErrNone},
		{0, 1 << 32, api.Grant{}, api.ErrNone},
	} {
		if got, errno := Find(b, c.server, c.at); got != c.want || errno != c.errno {
			t.Errorf("Find(.., %d, %d) = %v, %d; want %v, %d", c.server, c.at, got, errno, c.want, c.errno)
		}
	}
}

// Promise 6.2: a book that is not valid has no grants, nor does it verify anything.
func TestFindWrong(t *testing.T) {
	for _, b := range append(wrongBooks(), []api.Grant{grant(2, 5, 9), grant(1, 5, 9)}) {
		for _, server := range []int{b[0].Server, 0, 1, 2, 70} {
			if got, errno := Find(b, server, 5); got != (api.Grant{}) || errno != api.ErrForm {
				t.Errorf("Find(%v, %d, 5) = %v, %d; want ErrForm", b, server, got, errno)
			}
			if errno := Verify(b, server, 5, "", ""); errno != api.ErrForm {
				t.Errorf("Verify(%v, %d, 5) = %d; want ErrForm", b, server, errno)
			}
		}
	}
}

// signer is a grant of a new key, and a signature of a text by it.
func signer(t *testing.T, server int, from, to int64, seed string, high int, text string) (api.Grant, string) {
	t.Helper()
	k := api.Key{Seed: seed, High: high}
	root, rootErrno := key.Root(k)
	_, sig, errno := key.Sign(k, text)
	if rootErrno != api.OK || errno != api.OK {
		t.Fatalf("the key of server %d: %d, %d", server, rootErrno, errno)
	}
	return api.Grant{Server: server, From: from, To: to, High: high, Root: root}, sig
}

// Promise 6.2: a signature holds at the times of its own grant alone.
func TestVerify(t *testing.T) {
	g, sigG := signer(t, 2, 5, 9, "g", 1, "abc")
	h, sigH := signer(t, 2, 10, 19, "h", 1, "abc")
	o, sigO := signer(t, 3, 0, 99, "o", 2, "abc")
	b := []api.Grant{g, h, o}
	for _, c := range []struct {
		server int
		at     int64
		text   string
		sig    string
		want   api.Errno
	}{
		{2, 5, "abc", sigG, api.OK},
		{2, 9, "abc", sigG, api.OK},
		{2, 10, "abc", sigG, api.ErrSign},
		{2, 4, "abc", sigG, api.ErrNone},
		{2, 9, "abc", sigH, api.ErrSign},
		{2, 10, "abc", sigH, api.OK},
		{2, 19, "abc", sigH, api.OK},
		{2, 20, "abc", sigH, api.ErrNone},
		{2, 5, "abd", sigG, api.ErrSign},
		{2, 5, "", sigG, api.ErrSign},
		{2, 5, "abc", "", api.ErrForm},
		{2, 5, "abc", sigG + "!", api.ErrForm},
		{2, 5, "abc", sigO, api.ErrForm},
		{2, 20, "abc", "", api.ErrNone},
		{3, 5, "abc", sigO, api.OK},
		{3, 0, "abc", sigO, api.OK},
		{3, 99, "abc", sigO, api.OK},
		{3, 5, "abc", sigG, api.ErrForm},
		{1, 5, "abc", sigG, api.ErrNone},
		{-1, 5, "abc", sigG, api.ErrNone},
		{64, 5, "abc", sigG, api.ErrNone},
	} {
		if got := Verify(b, c.server, c.at, c.text, c.sig); got != c.want {
			t.Errorf("Verify for server %d at %d of %q, a signature of %d bytes = %d; want %d", c.server, c.at, c.text, len(c.sig), got, c.want)
		}
	}
}

// Promise 6.2: any list has servers, valid or not.
func TestServers(t *testing.T) {
	for _, c := range []struct{ servers, want []int }{
		{nil, nil},
		{[]int{0}, []int{0}},
		{[]int{1, 2}, []int{1, 2}},
		{[]int{2, 2, 2}, []int{2}},
		{[]int{0, 0, 1, 3, 3, 63}, []int{0, 1, 3, 63}},
		{[]int{2, 1, 2, 2, 1, 1}, []int{2, 1, 2, 1}},
		{[]int{-1, -1, 64, math.MaxInt, 0, 0}, []int{-1, 64, math.MaxInt, 0}},
	} {
		var b []api.Grant
		for _, server := range c.servers {
			b = append(b, grant(server, 9, 5))
		}
		if got := Servers(b); !slices.Equal(got, c.want) {
			t.Errorf("Servers of %v = %v; want %v", c.servers, got, c.want)
		}
	}
	many := slices.Repeat(full(), 3)
	if got := Servers(many); len(got) != 96 {
		t.Errorf("Servers of %d grants = %v", len(many), got)
	}
}

// Promise 6.3: neither the book that comes in nor an answer changes with another answer, even where there is room behind the book.
func TestNewMemory(t *testing.T) {
	for _, g := range []api.Grant{grant(1, 0, 4), grant(2, 10, 10), grant(3, 0, 0), grant(2, 9, 9), grant(64, 0, 0)} {
		whole := []api.Grant{grant(1, 5, 9), grant(2, 5, 9), grant(60, 0, 0), grant(61, 0, 0)}
		was := slices.Clone(whole)
		b := whole[:2]
		first, _ := Add(b, g)
		second, _ := Add(b, g)
		want := slices.Clone(second)
		for _, grants := range [][]api.Grant{first, first[:cap(first)]} {
			for i := range grants {
				grants[i].Server = 9
			}
		}
		if !slices.Equal(whole, was) {
			t.Errorf("adding %v shares memory with the book", g)
		}
		if !slices.Equal(second, want) {
			t.Errorf("two answers to adding %v share their memory", g)
		}
	}
	b := full()
	first, second := Servers(b), Servers(b)
	clear(first[:cap(first)])
	if len(second) != 32 || second[31] != 31 || !slices.Equal(b, full()) {
		t.Errorf("Servers shares its memory: %v", second)
	}
}

// Promise 6.4: of many books, put together at random, with grants that have a time in common and others.
func TestOne(t *testing.T) {
	source := rand.New(rand.NewSource(1))
	for range 150 {
		var b []api.Grant
		for i := range 25 {
			from := int64(source.Intn(20))
			g := api.Grant{Server: source.Intn(3), From: from, To: from + int64(source.Intn(4)), Root: api.Hash{byte(i), 1}}
			after, errno := Add(b, g)
			wantAdded(t, b, g, after, errno)
			b = after
		}
	}
}

// wantAdded fails unless a book after an addition is valid, and finds what it found before and what was added, and nothing else.
func wantAdded(t *testing.T, b []api.Grant, g api.Grant, after []api.Grant, errno api.Errno) {
	t.Helper()
	if Check(after) != api.OK {
		t.Fatalf("adding %v to %v = %v, which is not valid", g, b, after)
	}
	free := true
	for at := g.From; at <= g.To; at++ {
		free = free && len(wantAt(b, g.Server, at)) == 0
	}
	if free != (errno == api.OK) {
		t.Fatalf("adding %v to %v: %d", g, b, errno)
	}
	for server := range 3 {
		for at := range int64(25) {
			want := wantAt(b, server, at)
			if free && server == g.Server && g.From <= at && at <= g.To {
				want = append(want, g)
			}
			if len(want) > 1 || len(wantAt(after, server, at)) > 1 {
				t.Fatalf("server %d has more than one grant at %d in %v", server, at, after)
			}
			got, errno := Find(after, server, at)
			if len(want) == 0 && errno != api.ErrNone || len(want) == 1 && (got != want[0] || errno != api.OK) {
				t.Fatalf("Find(%v, %d, %d) = %v, %d; want %v", after, server, at, got, errno, want)
			}
		}
	}
}
