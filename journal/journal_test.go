package journal

import (
	"encoding/binary"
	"fmt"
	"hash/crc32"
	"math"
	"math/bits"
	"math/rand"
	"slices"
	"strings"
	"testing"
	"unsafe"

	"palaver/api"
	"palaver/disk"
)

// Encodings that were worked out apart from this program.
const (
	noBytes  = "\x00\x4e\x08\xbf\xb4"         // the empty record's
	abBytes  = "\x02ab\xa2\x0e\x42\x41"       // the record "ab"'s
	cBytes   = "\x01c\x73\x48\x45\xef"        // the record "c"'s
	oddBytes = "\x02\x00\xff\x05\x22\x64\xba" // the record "\x00\xff"'s
)

// longest is a record of as many bytes as there can be.
var longest = strings.Repeat("x", api.MaxText)

// wantBytes is a record's encoding by the library's numbers and checksums.
func wantBytes(record string) string {
	return withSum(string(binary.AppendUvarint(nil, uint64(len(record)))) + record)
}

// withSum is s with the library's checksum behind it, whose bits and bytes lie the other way round.
func withSum(s string) string {
	b := []byte(s)
	mirrored := make([]byte, len(b))
	for i := range b {
		mirrored[i] = bits.Reverse8(b[i])
	}
	return string(binary.BigEndian.AppendUint32(b, bits.Reverse32(^crc32.ChecksumIEEE(mirrored))))
}

// wantAll are the encodings of records, one behind the other.
func wantAll(records []string) string {
	var b strings.Builder
	for _, record := range records {
		b.WriteString(wantBytes(record))
	}
	return b.String()
}

// wrongDisks are disks that are not valid.
func wrongDisks() []api.Disk {
	return []api.Disk{
		{Synced: 1},
		{Data: abBytes, Synced: -1, Room: 100},
		{Data: abBytes, Synced: 8, Room: 100},
		{Data: abBytes, Synced: math.MinInt, Room: 100},
		{Data: abBytes, Synced: 2, Room: 6},
		{Data: abBytes, Synced: 2, Room: api.MaxDisk + 1},
		{Room: -1},
		{Room: math.MaxInt},
	}
}

// told is a disk with no more than the beginning of its data.
func told(d api.Disk) string {
	return fmt.Sprintf("%.60q (%d bytes, %d synced, room for %d)", d.Data, len(d.Data), d.Synced, d.Room)
}

// wantDisk fails a test unless a call answers a disk and an error's number.
func wantDisk(t *testing.T, call string, got api.Disk, errno api.Errno, want api.Disk, wantErrno api.Errno) {
	t.Helper()
	if got != want || errno != wantErrno {
		t.Errorf("%s = %s, %d; want %s, %d", call, told(got), errno, told(want), wantErrno)
	}
}

// wantRead fails a test unless some records and no more are read from s.
func wantRead(t *testing.T, s string, records []string, good int) {
	t.Helper()
	if l, n := Read(s); !slices.Equal(l, records) || n != good {
		t.Errorf("Read(%.60q) = %.60q, %d; want %.60q, %d", s, l, n, records, good)
	}
}

// Promise 9.1.
func TestBytes(t *testing.T) {
	for _, c := range []struct{ record, want string }{
		{"", noBytes},
		{"ab", abBytes},
		{"c", cBytes},
		{"\x00\xff", oddBytes},
		{longest[:127], "\x7f" + longest[:127] + "\x0a\xfd\x38\x1b"},
		{longest[:128], "\x80\x01" + longest[:128] + "\x48\x6e\x0e\x38"},
		{longest, "\x80\x40" + longest + "\xd7\xf3\x42\xc3"},
	} {
		if got, errno := Bytes(c.record); got != c.want || errno != api.OK {
			t.Errorf("Bytes of %d bytes = %.20q.., %d", len(c.record), got, errno)
		}
		if c.want != wantBytes(c.record) {
			t.Errorf("the test's own encoding of %d bytes is %.20q..", len(c.record), wantBytes(c.record))
		}
	}
	for _, many := range []int{1, 2, api.MaxText} {
		if got, errno := Bytes(longest + longest[:many]); got != "" || errno != api.ErrLong {
			t.Errorf("Bytes of %d bytes too many = %d bytes, %d; want ErrLong", many, len(got), errno)
		}
	}
}

// Promises 9.1 and 9.2: the chapter's example.
func TestExample(t *testing.T) {
	d, errno := disk.New(100)
	wantDisk(t, "New(100)", d, errno, api.Disk{Room: 100}, api.OK)
	d, errno = Add(d, "ab")
	wantDisk(t, "adding ab", d, errno, api.Disk{Data: abBytes, Room: 100}, api.OK)
	d, errno = Add(d, "c")
	wantDisk(t, "adding c", d, errno, api.Disk{Data: abBytes + cBytes, Room: 100}, api.OK)
	wantRead(t, d.Data+"\x01", []string{"ab", "c"}, 13)
	d, errno = disk.Write(d, "\x01d")
	wantDisk(t, "writing", d, errno, api.Disk{Data: abBytes + cBytes + "\x01d", Room: 100}, api.OK)
	d, errno = Mend(d)
	wantDisk(t, "mending", d, errno, api.Disk{Data: abBytes + cBytes, Synced: 13, Room: 100}, api.OK)
}

// Promise 9.1.
func TestAdd(t *testing.T) {
	for _, c := range []struct {
		d      api.Disk
		record string
		behind string
		errno  api.Errno
	}{
		{api.Disk{Room: 7}, "ab", abBytes, api.OK},
		{api.Disk{Room: 6}, "ab", "", api.ErrFull},
		{api.Disk{Room: 5}, "", noBytes, api.OK},
		{api.Disk{Room: 4}, "", "", api.ErrFull},
		{api.Disk{}, "", "", api.ErrFull},
		{api.Disk{Data: abBytes, Synced: 7, Room: 13}, "c", cBytes, api.OK},
		{api.Disk{Data: abBytes, Synced: 7, Room: 12}, "c", "", api.ErrFull},
		{api.Disk{Data: abBytes, Synced: 3, Room: 100}, "", noBytes, api.OK},
		{api.Disk{Data: abBytes, Room: 100}, "\x00\xff", oddBytes, api.OK},
		{api.Disk{Data: abBytes, Room: 7}, "ab", "", api.ErrFull},
		{api.Disk{Data: "\x01d", Synced: 1, Room: 100}, "ab", abBytes, api.OK}, // what is no record stays
		{api.Disk{Room: api.MaxDisk}, longest, wantBytes(longest), api.OK},
		{api.Disk{Room: len(wantBytes(longest))}, longest, wantBytes(longest), api.OK},
		{api.Disk{Room: len(wantBytes(longest)) - 1}, longest, "", api.ErrFull},
		{api.Disk{Room: api.MaxDisk}, longest + "x", "", api.ErrLong},
		{api.Disk{}, longest + "x", "", api.ErrLong}, // too long comes ahead of no room
		{api.Disk{Data: abBytes, Synced: 7, Room: 7}, longest + "x", "", api.ErrLong},
		{api.Disk{Data: abBytes, Synced: 2, Room: 100}, longest + longest, "", api.ErrLong},
	} {
		got, errno := Add(c.d, c.record)
		want := api.Disk{Data: c.d.Data + c.behind, Synced: c.d.Synced, Room: c.d.Room}
		wantDisk(t, fmt.Sprintf("Add of %d bytes to %s", len(c.record), told(c.d)), got, errno, want, c.errno)
	}
}

// Promises 9.1 and 9.2: a disk that is not valid is the first error, also where the record would be too long.
func TestWrongDisk(t *testing.T) {
	for _, d := range wrongDisks() {
		for _, record := range []string{"", "ab", longest, longest + "x"} {
			got, errno := Add(d, record)
			wantDisk(t, fmt.Sprintf("Add of %d bytes to %s", len(record), told(d)), got, errno, api.Disk{}, api.ErrForm)
		}
		got, errno := Mend(d)
		wantDisk(t, "Mend of "+told(d), got, errno, api.Disk{}, api.ErrForm)
	}
}

// Promise 9.1: records that are whole.
func TestRead(t *testing.T) {
	for _, l := range [][]string{
		nil,
		{""},
		{"", ""},
		{"ab"},
		{"ab", "", "c", "ab"},
		{abBytes, wantBytes(abBytes)}, // records in a record are not read
		{"\x00\x00\x00\x00", "\x00\xff", "\xff\xff\xff\xff"},
		{longest[:127], longest[:128], longest, longest[:api.MaxText-1]},
		slices.Repeat([]string{"a"}, 3*api.MaxList),
		slices.Repeat([]string{longest}, 200),
	} {
		s := wantAll(l)
		wantRead(t, s, l, len(s))
		for _, behind := range []string{
			"\x00", "\x01", "\x02", "\xff", "\x80", "ab", // too few bytes for a record
			"\x00\x00\x00\x00\x00",                    // zeros alone are none
			"\x00\x4e\x08\xbf\xb5",                    // a checksum with another bit
			"\x00\xb4\xbf\x08\x4e" + cBytes,           // a checksum the wrong way round
			"\x01c\x73\x48\x45",                       // a checksum that ends too soon
			"\x01\x73\x48\x45\xef",                    // a string that is one byte too short
			"\x02ab\x9e\x83\x48\x6d" + abBytes,        // another checksum than this one
			withSum("") + abBytes,                     // a checksum without a string
			withSum("\x80\x00"),                       // a length that is written too long
			withSum("\x81\x40"+longest+"x") + abBytes, // a record that is too long
			withSum("\x80\x80\x80\x80\x80\x80\x80\x01") + abBytes,
			"\xff\xff\xff\xff\xff\xff\xff\xff\xff",
		} {
			wantRead(t, s+behind, l, len(s))
		}
	}
}

// Promise 9.1: records behind what is none are not read.
func TestReadFirst(t *testing.T) {
	three := abBytes + cBytes + oddBytes
	ends := []int{0, 7, 13, 20}
	all := []string{"ab", "c", "\x00\xff"}
	for i := range len(three) {
		whole := 0
		for ends[whole+1] <= i {
			whole++
		}
		wantRead(t, three[:i], all[:whole], ends[whole])
		for turned := 1; turned < 256; turned++ {
			b := []byte(three)
			b[i] ^= byte(turned)
			wantRead(t, string(b), all[:whole], ends[whole])
		}
	}
}

// Promise 9.1: bytes at random, next to what their encoding tells.
func TestReadSome(t *testing.T) {
	source := rand.New(rand.NewSource(1))
	for range 3000 {
		var l []string
		for range source.Intn(6) {
			l = append(l, someString(source, 200))
		}
		s := wantAll(l)
		wantRead(t, s, l, len(s))
		backAndThere(t, s[:source.Intn(len(s)+1)]+someString(source, 9)+wantBytes("z"))
		backAndThere(t, someString(source, 30))
	}
}

// Promise 9.1.
func FuzzRead(f *testing.F) {
	f.Add(abBytes + cBytes + "\x01d")
	f.Add(noBytes + noBytes + "\x80")
	f.Fuzz(backAndThere)
}

// backAndThere fails a test unless the records of s make up a beginning of s, and none is behind them.
func backAndThere(t *testing.T, s string) {
	t.Helper()
	l, good := Read(s)
	if good > len(s) || wantAll(l) != s[:good] {
		t.Fatalf("Read(%q) = %q, %d", s, l, good)
	}
	if more, n := Read(s[good:]); len(more) > 0 || n != 0 {
		t.Fatalf("Read(%q) = %q, %d; want %q too", s, l, good, more)
	}
}

// someString is a string of fewer bytes than a bound.
func someString(source *rand.Rand, bound int) string {
	b := make([]byte, source.Intn(bound))
	source.Read(b)
	return string(b)
}

// Promise 9.2.
func TestMend(t *testing.T) {
	two := abBytes + cBytes
	for _, c := range []struct{ data, want string }{
		{"", ""},
		{"\x01d", ""},
		{abBytes[:6], ""},
		{abBytes, abBytes},
		{abBytes + cBytes[:5], abBytes},
		{two, two},
		{two + "\x00", two},
		{two + "\x01d" + abBytes, two},
		{"\x01d" + two, ""},
		{two + noBytes, two + noBytes},
		{two + "\x00\x00\x00\x00\x00", two},
	} {
		for synced := range len(c.data) + 1 {
			for _, room := range []int{len(c.data), 100, api.MaxDisk} {
				d := api.Disk{Data: c.data, Synced: synced, Room: room}
				want := api.Disk{Data: c.want, Synced: len(c.want), Room: room}
				got, errno := Mend(d)
				wantDisk(t, "Mend of "+told(d), got, errno, want, api.OK)
				got, errno = Mend(got)
				wantDisk(t, "Mend once more of "+told(d), got, errno, want, api.OK)
			}
		}
	}
	full := strings.Repeat(noBytes, api.MaxDisk/len(noBytes))
	got, errno := Mend(api.Disk{Data: full + "\x00", Room: api.MaxDisk})
	wantDisk(t, "Mend of a full disk", got, errno, api.Disk{Data: full, Synced: len(full), Room: api.MaxDisk}, api.OK)
}

// Promise 9.3.
func TestNewMemory(t *testing.T) {
	record := strings.Repeat("r", 30)
	s, _ := Bytes(record)
	apart(t, "Bytes", s, record)
	for _, d := range []api.Disk{
		{Data: s + s, Synced: 3, Room: 200},
		{Data: s + s, Synced: 2 * len(s), Room: 2 * len(s)}, // Add finds it full
		{Data: s + s + "\x01d", Room: 200},
	} {
		for _, text := range []string{record, longest + "x"} {
			added, _ := Add(d, text)
			apart(t, "Add", added.Data, d.Data, text)
		}
		mended, _ := Mend(d)
		apart(t, "Mend", mended.Data, d.Data)
		l, _ := Read(d.Data)
		apart(t, "Read", l[0], d.Data, l[1])
		l[0] = "other"
		if again, _ := Read(d.Data); l[1] != record || !slices.Equal(again, []string{record, record}) {
			t.Errorf("Read = %q, and then %q", l, again)
		}
	}
}

// apart fails a test if a result lies inside an argument's memory.
func apart(t *testing.T, call, result string, arguments ...string) {
	t.Helper()
	at := uintptr(unsafe.Pointer(unsafe.StringData(result)))
	for _, argument := range arguments {
		from := uintptr(unsafe.Pointer(unsafe.StringData(argument)))
		if len(result) > 0 && from <= at && at < from+uintptr(len(argument)) {
			t.Errorf("%s: the result lies in an argument's memory", call)
		}
	}
}

// Promise 9.4: all crashes of a journal, by all bits, with each number of its records synced.
func TestBeginning(t *testing.T) {
	for _, l := range [][]string{
		{"ab", "c", "", "\x00\xff"},
		{"", "", ""},
		{"\x00\x00\x00\x00\x00", "\x00"},
		{"a", longest[:128], "b"}, // a length of two bytes
	} {
		d, _ := disk.New(400)
		for synced := range l {
			whole := d
			for _, record := range l[synced:] {
				whole, _ = Add(whole, record)
			}
			for keep := range len(whole.Data) - len(d.Data) + 1 {
				for turned := range 256 {
					wantBeginning(t, whole, keep, byte(turned), l, synced)
				}
			}
			d, _ = Add(d, l[synced])
			d, _ = disk.Sync(d)
		}
	}
}

// wantBeginning fails a test unless a crash leaves a beginning of the records, and no less than were synced.
func wantBeginning(t *testing.T, d api.Disk, keep int, turned byte, l []string, synced int) {
	t.Helper()
	left, errno := disk.Fail(d, keep, turned)
	if errno != api.OK {
		t.Fatalf("Fail(%s, %d, %x) = %d", told(d), keep, turned, errno)
	}
	whole := 0
	for whole < len(l) && len(wantAll(l[:whole+1])) <= len(left.Data) {
		whole++
	}
	// A record whose last byte was turned is lost.
	if turned != 0 && whole > synced && len(wantAll(l[:whole])) == len(left.Data) {
		whole--
	}
	want := wantAll(l[:whole])
	left, errno = Mend(left)
	wantDisk(t, fmt.Sprintf("Fail(%s, %d, %x), mended", told(d), keep, turned), left, errno, api.Disk{Data: want, Synced: len(want), Room: d.Room}, api.OK)
	wantRead(t, left.Data, l[:whole], len(want))
}

// Promise 9.4: of many journals that are added to, synced and crash at random, next to what must be there.
func TestBeginningAgain(t *testing.T) {
	source := rand.New(rand.NewSource(2))
	for range 500 {
		d, _ := disk.New(300)
		var added []string
		synced := 0
		for range 40 {
			ahead := d
			var errno api.Errno
			switch source.Intn(6) {
			case 0, 1, 2:
				record := someString(source, 40)
				if d, errno = Add(d, record); errno == api.OK {
					added = append(added, record)
				}
			case 3:
				d, errno = disk.Sync(d)
				synced = len(added)
			default:
				d, _ = disk.Fail(d, source.Intn(100)-4, byte(source.Intn(256)*source.Intn(2)))
				d, errno = Mend(d)
				added = beginning(t, d, added, synced)
				synced = len(added)
			}
			if errno != api.OK && (errno != api.ErrFull || d != ahead) {
				t.Fatalf("%s became %s, %d", told(ahead), told(d), errno)
			}
			wantRead(t, d.Data, added, len(d.Data))
		}
	}
}

// beginning are the records of a disk, which must be a beginning of those that were added, and no less than were synced.
func beginning(t *testing.T, d api.Disk, added []string, synced int) []string {
	t.Helper()
	l, _ := Read(d.Data)
	if len(l) < synced || len(l) > len(added) || !slices.Equal(l, added[:len(l)]) {
		t.Fatalf("%q are left of %q, of which %d were synced", l, added, synced)
	}
	return l
}
