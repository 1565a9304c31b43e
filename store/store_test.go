package store

import (
	"fmt"
	"math"
	"math/rand"
	"slices"
	"strings"
	"testing"
	"unsafe"

	"palaver/api"
	"palaver/disk"
	"palaver/journal"
	"palaver/octet"
)

// Encodings of records that were worked out apart from this program.
const (
	abBytes    = "\x06\x02\x01e\x02ab\xd7\x63\xe6\xbd" // the entry "ab"'s
	noBytes    = "\x04\x02\x01e\x00\x2c\xfe\x06\x5e"   // the empty entry's
	count0     = "\x05\x02\x01c\x01\x00\x9e\xcb\x54\x32"
	count5     = "\x05\x02\x01c\x01\x05\x89\x0e\x3f\x59"
	count300   = "\x06\x02\x01c\x02\xac\x02\x65\x96\x53\x05"
	countMost  = "\x07\x02\x01c\x03\x80\x80\x40\x8e\xb5\x9e\xa5"
	exampleOf  = count5 + abBytes + count300 // the data of the chapter's disk d
	mostOfText = api.MaxText - 5             // bytes of the longest entry whose record is no longer than a string may be
)

// longest is a string of as many bytes as there can be.
var longest = strings.Repeat("x", api.MaxText)

// encoded are the encodings of records, one behind the other.
func encoded(records ...string) string {
	var b strings.Builder
	for _, record := range records {
		s, errno := journal.Bytes(record)
		if errno != api.OK {
			panic("no record")
		}
		b.WriteString(s)
	}
	return b.String()
}

// list is the encoding of a list of strings.
func list(l ...string) string {
	s, errno := octet.List(l...)
	if errno != api.OK {
		panic("no list")
	}
	return s
}

// number is the encoding of a number.
func number(n uint64) string {
	s, errno := octet.Num(n)
	if errno != api.OK {
		panic("no number")
	}
	return s
}

// wrongDisks are disks that are not valid.
func wrongDisks() []api.Disk {
	return []api.Disk{
		{Synced: 1},
		{Data: abBytes, Synced: -1, Room: 100},
		{Data: abBytes, Synced: math.MaxInt, Room: 100},
		{Data: abBytes, Synced: 2, Room: 6},
		{Data: encoded("x"), Synced: 2, Room: api.MaxDisk + 1},
		{Room: -1},
	}
}

// told is a disk with no more than the beginning of its data.
func told(d api.Disk) string {
	return fmt.Sprintf("%.60q (%d bytes, %d synced, room for %d)", d.Data, len(d.Data), d.Synced, d.Room)
}

// wantDisk fails a test unless a call answers a disk and an error's number.
func wantDisk(t *testing.T, call string, got api.Disk, errno api.Errno, want api.Disk, wantErrno api.Errno) {
	t.Helper()
	if got != want || errno != wantErrno {
		t.Errorf("%s = %s, %d; want %s, %d", call, told(got), errno, told(want), wantErrno)
	}
}

// wantSaved fails a test unless a call answers these entries and this count.
func wantSaved(t *testing.T, call string, got api.Saved, errno api.Errno, entries []string, count int) {
	t.Helper()
	if !slices.Equal(got.Entries, entries) || got.Count != count || errno != api.OK {
		t.Errorf("%s = %.60q, %d, %d; want %.60q, %d", call, got.Entries, got.Count, errno, entries, count)
	}
}

// Promises 10.1 and 10.2: the chapter's example.
func TestExample(t *testing.T) {
	d, _ := disk.New(100)
	d, errno := PutCount(d, 5)
	wantDisk(t, "the count 5", d, errno, api.Disk{Data: count5, Room: 100}, api.OK)
	d, errno = PutEntry(d, "ab")
	wantDisk(t, "the entry ab", d, errno, api.Disk{Data: count5 + abBytes, Room: 100}, api.OK)
	d, errno = PutCount(d, 300)
	wantDisk(t, "the count 300", d, errno, api.Disk{Data: exampleOf, Room: 100}, api.OK)
	same, errno := PutCount(d, -1)
	wantDisk(t, "the count -1", same, errno, d, api.ErrRange)
	saved, errno := Load(d.Data)
	wantSaved(t, "Load", saved, errno, []string{"ab"}, 300)

	again, saved, errno := Restart(api.Disk{Data: d.Data + "!", Synced: 3, Room: 100})
	wantDisk(t, "Restart", again, errno, api.Disk{Data: exampleOf, Synced: len(exampleOf), Room: 100}, api.OK)
	wantSaved(t, "Restart", saved, errno, []string{"ab"}, 300)
	less := count300 + abBytes
	d, errno = Compact(d)
	wantDisk(t, "Compact", d, errno, api.Disk{Data: less, Synced: len(less), Room: 100}, api.OK)
}

// Promise 10.1.
func TestPutEntry(t *testing.T) {
	fits := longest[:mostOfText]
	fitting := encoded(list("e", fits))
	for _, c := range []struct {
		d      api.Disk
		entry  string
		behind string
		errno  api.Errno
	}{
		{api.Disk{Room: 100}, "ab", abBytes, api.OK},
		{api.Disk{Room: 100}, "", noBytes, api.OK},
		{api.Disk{Room: len(abBytes)}, "ab", abBytes, api.OK},
		{api.Disk{Room: len(abBytes) - 1}, "ab", "", api.ErrFull},
		{api.Disk{}, "", "", api.ErrFull},
		{api.Disk{Data: count5, Synced: 3, Room: 100}, "ab", abBytes, api.OK},
		{api.Disk{Data: exampleOf, Synced: 9, Room: len(exampleOf)}, "", "", api.ErrFull},
		{api.Disk{Data: "!", Room: 100}, "ab", abBytes, api.OK},
		{api.Disk{Room: 100}, "\x00\xff", encoded(list("e", "\x00\xff")), api.OK},
		{api.Disk{Room: api.MaxDisk}, fits, fitting, api.OK},
		{api.Disk{Room: len(fitting)}, fits, fitting, api.OK},
		{api.Disk{Room: len(fitting) - 1}, fits, "", api.ErrFull},
		{api.Disk{Room: api.MaxDisk}, fits + "x", "", api.ErrLong}, // the record is too long
		{api.Disk{Data: count5, Synced: 1, Room: 20}, fits + "x", "", api.ErrLong},
		{api.Disk{Data: count5, Synced: 1, Room: 20}, longest, "", api.ErrLong},
		{api.Disk{Data: count5, Synced: 1, Room: 20}, longest + "x", "", api.ErrLong}, // the entry is
		{api.Disk{}, longest + longest, "", api.ErrLong},
	} {
		got, errno := PutEntry(c.d, c.entry)
		want := api.Disk{Data: c.d.Data + c.behind, Synced: c.d.Synced, Room: c.d.Room}
		wantDisk(t, fmt.Sprintf("PutEntry of %d bytes to %s", len(c.entry), told(c.d)), got, errno, want, c.errno)
	}
}

// Promise 10.1.
func TestPutCount(t *testing.T) {
	for _, c := range []struct {
		d      api.Disk
		n      int
		behind string
		errno  api.Errno
	}{
		{api.Disk{Room: 100}, 0, count0, api.OK},
		{api.Disk{Room: 100}, 5, count5, api.OK},
		{api.Disk{Room: 100}, 300, count300, api.OK},
		{api.Disk{Room: 100}, api.MaxCount - 1, encoded(list("c", "\xff\xff\x3f")), api.OK},
		{api.Disk{Room: 100}, api.MaxCount, countMost, api.OK},
		{api.Disk{Room: len(count5)}, 5, count5, api.OK},
		{api.Disk{Room: len(count5) - 1}, 5, "", api.ErrFull},
		{api.Disk{Data: count300, Synced: 3, Room: 100}, 5, count5, api.OK}, // also a lesser one
		{api.Disk{Data: exampleOf, Synced: 3, Room: len(exampleOf)}, 0, "", api.ErrFull},
		{api.Disk{Data: exampleOf, Synced: 3, Room: 100}, -1, "", api.ErrRange},
		{api.Disk{Data: exampleOf, Synced: 3, Room: 100}, api.MaxCount + 1, "", api.ErrRange},
		{api.Disk{}, -1, "", api.ErrRange}, // a wrong number comes ahead of no room
		{api.Disk{}, math.MinInt, "", api.ErrRange},
		{api.Disk{Room: 100}, math.MaxInt, "", api.ErrRange},
		{api.Disk{Room: 100}, 1 << 32, "", api.ErrRange},
		{api.Disk{Room: 100}, 1<<32 + 5, "", api.ErrRange},
	} {
		got, errno := PutCount(c.d, c.n)
		want := api.Disk{Data: c.d.Data + c.behind, Synced: c.d.Synced, Room: c.d.Room}
		wantDisk(t, fmt.Sprintf("PutCount(%s, %d)", told(c.d), c.n), got, errno, want, c.errno)
	}
}

// Promises 10.1 and 10.2: a wrong entry or count comes ahead of a disk that is not valid, which comes ahead of all else.
func TestWrongDisk(t *testing.T) {
	for _, d := range wrongDisks() {
		for _, entry := range []string{"", "ab", longest[:mostOfText], longest[:mostOfText+1], longest} {
			got, errno := PutEntry(d, entry)
			wantDisk(t, fmt.Sprintf("PutEntry of %d bytes to %s", len(entry), told(d)), got, errno, api.Disk{}, api.ErrForm)
		}
		got, errno := PutEntry(d, longest+"x")
		wantDisk(t, "PutEntry of too many bytes to "+told(d), got, errno, d, api.ErrLong)
		for _, n := range []int{0, 5, api.MaxCount} {
			got, errno = PutCount(d, n)
			wantDisk(t, fmt.Sprintf("PutCount(%s, %d)", told(d), n), got, errno, api.Disk{}, api.ErrForm)
		}
		for _, n := range []int{-1, api.MaxCount + 1} {
			got, errno = PutCount(d, n)
			wantDisk(t, fmt.Sprintf("PutCount(%s, %d)", told(d), n), got, errno, d, api.ErrRange)
		}
		got, errno = Compact(d)
		wantDisk(t, "Compact of "+told(d), got, errno, api.Disk{}, api.ErrForm)
		got, saved, errno := Restart(d)
		wantDisk(t, "Restart of "+told(d), got, errno, api.Disk{}, api.ErrForm)
		if saved.Entries != nil || saved.Count != 0 {
			t.Errorf("Restart of %s = .., %v", told(d), saved)
		}
	}
}

// Promise 10.1.
func TestLoad(t *testing.T) {
	for _, c := range []struct {
		s       string
		entries []string
		count   int
	}{
		{"", nil, 0},
		{"!", nil, 0},
		{exampleOf, []string{"ab"}, 300},
		{exampleOf + "!", []string{"ab"}, 300},
		{"!" + exampleOf, nil, 0},
		{exampleOf[:len(exampleOf)-1], []string{"ab"}, 5},
		{count300 + count5, nil, 300}, // the greatest, not the last
		{count5 + count300 + count0, nil, 300},
		{count0, nil, 0},
		{count300 + countMost + count300, nil, api.MaxCount},
		{noBytes, []string{""}, 0},
		{abBytes + noBytes + abBytes, []string{"ab", "", "ab"}, 0}, // in order, also what is there twice
		{encoded(list("e", "b"), list("e", "a"), list("e", "c")), []string{"b", "a", "c"}, 0},
		{encoded(list("e", "c"), list("e", "e"), list("e", list("c", "\x05"))), []string{"c", "e", list("c", "\x05")}, 0},
		{encoded(list("e", longest[:mostOfText])), []string{longest[:mostOfText]}, 0},
		{count5 + encoded("x")[:5], nil, 5}, // a record that is not whole is none
	} {
		saved, errno := Load(c.s)
		wantSaved(t, fmt.Sprintf("Load(%.60q)", c.s), saved, errno, c.entries, c.count)
	}
}

// wrongRecords are records that are neither an entry's nor a count's.
func wrongRecords() []string {
	return []string{
		"", "x", "e", "c", "\x02", "\x00", "\x80",
		list(), list(""), list("e"), list("c"), list("", ""), list("", "ab"),
		list("e", "ab", ""), list("e", "ab", "ab"), list("c", "\x05", ""), list("c", "\x05", "\x05"),
		list("E", "ab"), list("C", "\x05"), list("x", "ab"), list("ec", "ab"), list("e ", "ab"), list("cc", "\x05"),
		list("ab", "e"), list("\x05", "c"),
		list("e", "ab") + "\x00", list("c", "\x05") + "\x00", list("e", "ab") + list("e", "ab"),
		"\x02\x01e", "\x02\x01c\x01", "\x02\x01e\x03ab", "\x82\x00\x01e\x02ab", "\x02\x81\x00e\x02ab", "\x02\x01c\x81\x00\x05",
		list("c", ""), list("c", "\x80"), list("c", "\x80\x00"), list("c", "\x85\x00"), list("c", "\x05\x00"), list("c", "\x05\x05"),
		list("c", "5"+"0"), list("c", number(api.MaxCount+1)), list("c", number(1<<32)), list("c", number(api.MaxNum)),
		list("c", "\xff\xff\xff\xff\xff\xff\x7f"), list("c", strings.Repeat("\xff", 10)),
		longest,
	}
}

// Promises 10.1 and 10.2.
func TestWrongRecord(t *testing.T) {
	for _, record := range wrongRecords() {
		wrong := encoded(record)
		for _, data := range []string{wrong, exampleOf + wrong, wrong + exampleOf, abBytes + wrong + "!", wrong + wrong} {
			saved, errno := Load(data)
			if saved.Entries != nil || saved.Count != 0 || errno != api.ErrCode {
				t.Errorf("Load(%.60q) = %.60q, %d, %d; want ErrCode", data, saved.Entries, saved.Count, errno)
			}
			d := api.Disk{Data: data, Synced: 1, Room: len(data) + 7}
			got, saved, errno := Restart(d)
			wantDisk(t, "Restart of "+told(d), got, errno, api.Disk{}, api.ErrCode)
			if saved.Entries != nil || saved.Count != 0 {
				t.Errorf("Restart of %s = .., %.60q, %d", told(d), saved.Entries, saved.Count)
			}
			got, errno = Compact(d)
			wantDisk(t, "Compact of "+told(d), got, errno, d, api.ErrCode)
		}
	}
}

// Promise 10.2.
func TestRestart(t *testing.T) {
	for _, c := range []struct {
		data, good string
		entries    []string
		count      int
	}{
		{"", "", nil, 0},
		{"!", "", nil, 0},
		{count0, count0, nil, 0},
		{exampleOf, exampleOf, []string{"ab"}, 300},
		{exampleOf + "!", exampleOf, []string{"ab"}, 300},
		{exampleOf + noBytes[:8], exampleOf, []string{"ab"}, 300},
		{exampleOf + noBytes, exampleOf + noBytes, []string{"ab", ""}, 300},
		{exampleOf[:len(exampleOf)-1], count5 + abBytes, []string{"ab"}, 5},
		{count300 + count5 + "!" + countMost, count300 + count5, nil, 300},
	} {
		for synced := range len(c.data) + 1 {
			for _, room := range []int{len(c.data), 200, api.MaxDisk} {
				d := api.Disk{Data: c.data, Synced: synced, Room: room}
				got, saved, errno := Restart(d)
				wantDisk(t, "Restart of "+told(d), got, errno, api.Disk{Data: c.good, Synced: len(c.good), Room: room}, api.OK)
				wantSaved(t, "Restart of "+told(d), saved, errno, c.entries, c.count)
			}
		}
	}
}

// Promises 10.2 and 10.5.
func TestCompact(t *testing.T) {
	for _, c := range []struct{ data, want string }{
		{"", ""},
		{"!", ""},
		{count0, ""}, // no count and a count of 0 are the same
		{count0 + count0 + noBytes, noBytes},
		{count5, count5},
		{exampleOf, count300 + abBytes},
		{exampleOf + "!", count300 + abBytes},
		{exampleOf + countMost[:11], count300 + abBytes},
		{abBytes + noBytes + abBytes, abBytes + noBytes + abBytes},
		{abBytes + count5 + noBytes + abBytes, count5 + abBytes + noBytes + abBytes},
		{countMost + count300 + count5 + count0, countMost},
		{"!" + exampleOf, ""},
	} {
		for synced := range len(c.data) + 1 {
			for _, room := range []int{len(c.data), 200} {
				d := api.Disk{Data: c.data, Synced: synced, Room: room}
				want := api.Disk{Data: c.want, Synced: len(c.want), Room: room}
				got, errno := Compact(d)
				wantDisk(t, "Compact of "+told(d), got, errno, want, api.OK)
				got, errno = Compact(got)
				wantDisk(t, "Compact once more of "+told(d), got, errno, want, api.OK)
			}
		}
	}
}

// Promises 10.1, 10.2 and 10.5: a disk that is full of the shortest records.
func TestFull(t *testing.T) {
	many := (api.MaxDisk - len(count5)) / len(noBytes)
	entries := strings.Repeat(noBytes, many)
	d := api.Disk{Data: entries + count5, Room: api.MaxDisk}
	saved, errno := Load(d.Data)
	if len(saved.Entries) != many || saved.Count != 5 || errno != api.OK {
		t.Errorf("Load = %d entries, %d, %d; want %d and 5", len(saved.Entries), saved.Count, errno, many)
	}
	got, errno := Compact(d)
	wantDisk(t, "Compact", got, errno, api.Disk{Data: count5 + entries, Synced: len(d.Data), Room: api.MaxDisk}, api.OK)
}

// Promise 10.3.
func TestNewMemory(t *testing.T) {
	entry := strings.Repeat("r", 30)
	s := encoded(list("e", entry), list("e", entry))
	for _, d := range []api.Disk{
		{Data: s, Synced: 3, Room: 200},
		{Data: s, Synced: len(s), Room: len(s)}, // no entry has room there
		{Data: s + "!", Room: 200},
		{Data: s + encoded("x"), Room: 200}, // Compact leaves it as it was
		{Data: s, Synced: -1, Room: 200},
	} {
		for _, text := range []string{entry, longest, longest + "x"} {
			got, _ := PutEntry(d, text)
			apart(t, "PutEntry", got.Data, d.Data, text)
		}
		for _, n := range []int{-1, 5} {
			got, _ := PutCount(d, n)
			apart(t, "PutCount", got.Data, d.Data)
		}
		got, saved, _ := Restart(d)
		apart(t, "Restart", got.Data, d.Data)
		for _, loaded := range saved.Entries {
			apart(t, "Restart", loaded, d.Data, got.Data)
		}
		got, _ = Compact(d)
		apart(t, "Compact", got.Data, d.Data)
	}
	saved, _ := Load(s)
	apart(t, "Load", saved.Entries[0], s, saved.Entries[1])
	saved.Entries[0] = "other"
	if again, _ := Load(s); saved.Entries[1] != entry || !slices.Equal(again.Entries, []string{entry, entry}) {
		t.Errorf("Load = %q, and then %q", saved.Entries, again.Entries)
	}
}

// apart fails a test if a result lies inside an argument's memory.
func apart(t *testing.T, call, result string, arguments ...string) {
	t.Helper()
	at := uintptr(unsafe.Pointer(unsafe.StringData(result)))
	for _, argument := range arguments {
		from := uintptr(unsafe.Pointer(unsafe.StringData(argument)))
		if len(result) > 0 && from <= at && at < from+uintptr(len(argument)) {
			t.Errorf("%s: the result lies in an argument's memory", call)
		}
	}
}

// model is what a disk must have: the entries and counts that were added, how many of the entries were synced, and the greatest synced count.
type model struct {
	entries []string
	counts  []int
	synced  int
	count   int
}

// sync notes that all that was added is synced.
func (m *model) sync() {
	m.synced = len(m.entries)
	for _, n := range m.counts {
		m.count = max(m.count, n)
	}
}

// restart fails a test unless what was loaded is a beginning of the entries, with the synced ones and counts, and notes that the rest is lost.
func (m *model) restart(t *testing.T, saved api.Saved) {
	t.Helper()
	many := len(saved.Entries)
	if many < m.synced || many > len(m.entries) || !slices.Equal(saved.Entries, m.entries[:many]) {
		t.Fatalf("%q are left of %q, of which %d were synced", saved.Entries, m.entries, m.synced)
	}
	if saved.Count < m.count || saved.Count != m.count && !slices.Contains(m.counts, saved.Count) {
		t.Fatalf("the count %d is left of %v, of which %d was synced", saved.Count, m.counts, m.count)
	}
	*m = model{entries: saved.Entries, synced: many, count: saved.Count}
}

// Promises 10.4 and 10.5: of many disks that are added to, synced, compacted and crash at random, next to what must be there.
func TestKept(t *testing.T) {
	source := rand.New(rand.NewSource(1))
	for range 1000 {
		d, _ := disk.New(250)
		var m model
		for range 40 {
			ahead := d
			var errno api.Errno
			switch source.Intn(8) {
			case 0, 1:
				entry := someString(source, 30)
				if d, errno = PutEntry(d, entry); errno == api.OK {
					m.entries = append(m.entries, entry)
				}
			case 2, 3:
				n := source.Intn(api.MaxCount + 1)
				if d, errno = PutCount(d, n); errno == api.OK {
					m.counts = append(m.counts, n)
				}
			case 4:
				d, errno = disk.Sync(d)
				m.sync()
			case 5:
				d, errno = Compact(d)
				wantSame(t, ahead, d)
				m.sync()
			default:
				d, _ = disk.Fail(d, source.Intn(100)-4, byte(source.Intn(256)*source.Intn(2)))
				var saved api.Saved
				d, saved, errno = Restart(d)
				m.restart(t, saved)
			}
			if errno != api.OK && (errno != api.ErrFull || d != ahead) {
				t.Fatalf("%s became %s, %d", told(ahead), told(d), errno)
			}
		}
		wantAll(t, d, m)
	}
}

// wantSame fails a test unless a disk tells what it told ahead of Compact, in no more bytes, all of them synced.
func wantSame(t *testing.T, ahead, d api.Disk) {
	t.Helper()
	was, _ := Load(ahead.Data)
	is, errno := Load(d.Data)
	wantSaved(t, "Load of "+told(ahead)+", compacted", is, errno, was.Entries, was.Count)
	if len(d.Data) > len(ahead.Data) || d.Synced != len(d.Data) || d.Room != ahead.Room {
		t.Fatalf("%s became %s", told(ahead), told(d))
	}
}

// wantAll fails a test unless a disk, that has not crashed, tells all that a model has.
func wantAll(t *testing.T, d api.Disk, m model) {
	t.Helper()
	m.sync()
	saved, errno := Load(d.Data)
	wantSaved(t, "Load of "+told(d), saved, errno, m.entries, m.count)
}

// someString is a string of fewer bytes than a bound.
func someString(source *rand.Rand, bound int) string {
	b := make([]byte, source.Intn(bound))
	source.Read(b)
	return string(b)
}

// Promise 10.4: all crashes of a disk, by all bits, after each number of its records was synced.
func TestKeptAll(t *testing.T) {
	for synced := range 5 {
		d, _ := disk.New(100)
		var m model
		for i := range 5 {
			if i == synced {
				d, _ = disk.Sync(d)
				m.sync()
			}
			if i%2 == 0 {
				d, _ = PutCount(d, 400-i)
				m.counts = append(m.counts, 400-i)
			} else {
				d, _ = PutEntry(d, string(rune('a'+i)))
				m.entries = append(m.entries, string(rune('a'+i)))
			}
		}
		for keep := range len(d.Data) - d.Synced + 1 {
			for turned := range 256 {
				left, _ := disk.Fail(d, keep, byte(turned))
				_, saved, errno := Restart(left)
				if errno != api.OK {
					t.Fatalf("Restart of %s = %d", told(left), errno)
				}
				after := m
				after.restart(t, saved)
			}
		}
	}
}
