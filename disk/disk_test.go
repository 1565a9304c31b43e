package disk

import (
	"fmt"
	"math"
	"math/rand"
	"strings"
	"testing"
	"unsafe"

	"palaver/api"
)

// example is the chapter's disk d.
var example = api.Disk{Data: "abcde", Synced: 2, Room: 6}

// most is as many bytes as a disk can have.
var most = strings.Repeat("x", api.MaxDisk)

// rightDisks are disks that are valid.
func rightDisks() []api.Disk {
	return []api.Disk{
		{},
		{Room: 1},
		{Room: api.MaxDisk},
		{Data: "a", Room: 1},
		{Data: "a", Synced: 1, Room: 1},
		{Data: "a", Synced: 1, Room: api.MaxDisk},
		{Data: "\x00\xff\xe2\x82", Synced: 3, Room: 4},
		{Data: most, Room: api.MaxDisk},
		{Data: most, Synced: api.MaxDisk, Room: api.MaxDisk},
		example,
	}
}

// wrongDisks are disks that are not valid.
func wrongDisks() []api.Disk {
	return []api.Disk{
		{Synced: 1},
		{Synced: 1, Room: 1},
		{Synced: -1},
		{Synced: -1, Room: 6},
		{Data: "ab", Synced: -1, Room: 6},
		{Data: "ab", Synced: math.MinInt, Room: 6},
		{Data: "ab", Synced: 3, Room: 6},
		{Data: "ab", Synced: 3, Room: 3},
		{Data: "ab", Synced: math.MaxInt, Room: 6},
		{Data: "ab", Synced: 1, Room: 1},
		{Data: "ab", Synced: 2, Room: 1},
		{Data: "ab"},
		{Data: "ab", Room: -1},
		{Room: -1},
		{Room: math.MinInt},
		{Room: api.MaxDisk + 1},
		{Data: "ab", Synced: 1, Room: api.MaxDisk + 1},
		{Data: "ab", Synced: 1, Room: math.MaxInt},
		{Data: most + "x", Synced: 1, Room: api.MaxDisk},
		{Data: most + "x", Synced: 1, Room: api.MaxDisk + 1},
	}
}

// wantDisk fails a test unless a call answers a disk and an error's number.
func wantDisk(t *testing.T, call string, got api.Disk, errno api.Errno, want api.Disk, wantErrno api.Errno) {
	t.Helper()
	if got != want || errno != wantErrno {
		t.Errorf("%s = %s, %d; want %s, %d", call, told(got), errno, told(want), wantErrno)
	}
}

// told is a disk with no more than the beginning of its data.
func told(d api.Disk) string {
	return fmt.Sprintf("%.40q (%d bytes, %d synced, room for %d)", d.Data, len(d.Data), d.Synced, d.Room)
}

// Promise 8.1.
func TestNew(t *testing.T) {
	for _, room := range []int{0, 1, 6, 1 << 16, api.MaxDisk - 1, api.MaxDisk} {
		d, errno := New(room)
		wantDisk(t, fmt.Sprintf("New(%d)", room), d, errno, api.Disk{Room: room}, api.OK)
	}
	for _, room := range []int{-1, -6, math.MinInt, api.MaxDisk + 1, 1 << 32, math.MaxInt} {
		d, errno := New(room)
		wantDisk(t, fmt.Sprintf("New(%d)", room), d, errno, api.Disk{}, api.ErrRange)
	}
}

// Promise 8.1.
func TestCheck(t *testing.T) {
	for _, d := range rightDisks() {
		if errno := Check(d); errno != api.OK {
			t.Errorf("Check of %s = %d; want OK", told(d), errno)
		}
	}
	for _, d := range wrongDisks() {
		if errno := Check(d); errno != api.ErrForm {
			t.Errorf("Check of %s = %d; want ErrForm", told(d), errno)
		}
	}
}

// Promise 8.1: a disk that is not valid is the first error, also where the bytes would be too many.
func TestWrongDisk(t *testing.T) {
	for _, d := range wrongDisks() {
		for _, s := range []string{"", "a", most, most + "x"} {
			got, errno := Write(d, s)
			wantDisk(t, fmt.Sprintf("Write of %d bytes to %s", len(s), told(d)), got, errno, api.Disk{}, api.ErrForm)
			got, errno = Swap(d, s)
			wantDisk(t, fmt.Sprintf("Swap of %d bytes on %s", len(s), told(d)), got, errno, api.Disk{}, api.ErrForm)
		}
		got, errno := Sync(d)
		wantDisk(t, "Sync of "+told(d), got, errno, api.Disk{}, api.ErrForm)
		for _, keep := range []int{math.MinInt, -1, 0, 1, 2, math.MaxInt} {
			got, errno = Fail(d, keep, 1)
			wantDisk(t, fmt.Sprintf("Fail(.., %d, 1) of %s", keep, told(d)), got, errno, api.Disk{}, api.ErrForm)
		}
	}
}

// Promises 8.1 to 8.3: the chapter's example.
func TestExample(t *testing.T) {
	d, errno := New(6)
	wantDisk(t, "New(6)", d, errno, api.Disk{Room: 6}, api.OK)
	d, errno = Write(d, "ab")
	wantDisk(t, "writing ab", d, errno, api.Disk{Data: "ab", Room: 6}, api.OK)
	d, errno = Sync(d)
	wantDisk(t, "syncing", d, errno, api.Disk{Data: "ab", Synced: 2, Room: 6}, api.OK)
	d, errno = Write(d, "cde")
	wantDisk(t, "writing cde", d, errno, example, api.OK)
	got, errno := Write(d, "fg")
	wantDisk(t, "writing fg", got, errno, example, api.ErrFull)
	got, errno = Swap(d, "xyz")
	wantDisk(t, "swapping", got, errno, api.Disk{Data: "xyz", Synced: 3, Room: 6}, api.OK)
	got, errno = Fail(d, 2, 1)
	wantDisk(t, "failing", got, errno, api.Disk{Data: "abce", Synced: 4, Room: 6}, api.OK)
}

// Promise 8.2.
func TestWrite(t *testing.T) {
	for _, c := range []struct {
		d     api.Disk
		s     string
		data  string
		errno api.Errno
	}{
		{example, "", "abcde", api.OK},
		{example, "f", "abcdef", api.OK},
		{example, "fg", "abcde", api.ErrFull},
		{example, "\x00", "abcde\x00", api.OK},
		{example, "\xff", "abcde\xff", api.OK},
		{example, "\u20ac", "abcde", api.ErrFull}, // one rune, three bytes
		{api.Disk{}, "", "", api.OK},
		{api.Disk{}, "a", "", api.ErrFull},
		{api.Disk{Room: 1}, "a", "a", api.OK},
		{api.Disk{Room: 1}, "ab", "", api.ErrFull},
		{api.Disk{Data: "a", Synced: 1, Room: 1}, "", "a", api.OK},
		{api.Disk{Data: "a", Synced: 1, Room: 1}, "b", "a", api.ErrFull},
		{api.Disk{Room: api.MaxDisk}, most, most, api.OK},
		{api.Disk{Room: api.MaxDisk}, most + "x", "", api.ErrFull},
		{api.Disk{Room: api.MaxDisk - 1}, most, "", api.ErrFull},
		{api.Disk{Data: "a", Room: api.MaxDisk}, most, "a", api.ErrFull},
		{api.Disk{Data: "a", Room: api.MaxDisk}, most[1:], "a" + most[1:], api.OK},
		{api.Disk{Data: most, Room: api.MaxDisk}, "", most, api.OK},
		{api.Disk{Data: most, Room: api.MaxDisk}, "x", most, api.ErrFull},
	} {
		got, errno := Write(c.d, c.s)
		want := api.Disk{Data: c.data, Synced: c.d.Synced, Room: c.d.Room}
		wantDisk(t, fmt.Sprintf("Write of %d bytes to %s", len(c.s), told(c.d)), got, errno, want, c.errno)
	}
}

// Promise 8.2.
func TestSync(t *testing.T) {
	for _, d := range rightDisks() {
		got, errno := Sync(d)
		wantDisk(t, "Sync of "+told(d), got, errno, api.Disk{Data: d.Data, Synced: len(d.Data), Room: d.Room}, api.OK)
	}
}

// Promise 8.2: what was there ahead of a swap takes no room from it.
func TestSwap(t *testing.T) {
	for _, d := range rightDisks() {
		for _, s := range []string{"", "a", "\x00\xff", most[:d.Room]} {
			call := fmt.Sprintf("Swap of %d bytes on %s", len(s), told(d))
			got, errno := Swap(d, s)
			if len(s) > d.Room {
				wantDisk(t, call, got, errno, d, api.ErrFull)
				continue
			}
			wantDisk(t, call, got, errno, api.Disk{Data: s, Synced: len(s), Room: d.Room}, api.OK)
		}
		got, errno := Swap(d, most[:d.Room]+"x")
		wantDisk(t, "Swap of more than the room of "+told(d), got, errno, d, api.ErrFull)
	}
}

// Promise 8.3.
func TestFail(t *testing.T) {
	synced := api.Disk{Data: "abcde", Synced: 5, Room: 6}
	fresh := api.Disk{Data: "abcde", Room: 5}
	for _, c := range []struct {
		d    api.Disk
		keep int
		bits byte
		data string
	}{
		{example, 0, 0, "ab"},
		{example, 0, 0xff, "ab"},
		{example, -1, 1, "ab"},
		{example, -2, 1, "ab"},
		{example, -3, 1, "ab"},
		{example, math.MinInt, 1, "ab"},
		{example, 1, 0, "abc"},
		{example, 1, 1, "abb"},
		{example, 2, 0, "abcd"},
		{example, 2, 0xff, "abc\x9b"},
		{example, 3, 0, "abcde"},
		{example, 3, 0x80, "abcd\xe5"},
		{example, 3, 'e', "abcd\x00"},
		{example, 4, 0, "abcde"},
		{example, 4, 1, "abcdd"},
		{example, 5, 1, "abcdd"},
		{example, 6, 1, "abcdd"},
		{example, math.MaxInt, 1, "abcdd"},
		{synced, 0, 1, "abcde"},
		{synced, 1, 1, "abcde"},
		{synced, -1, 1, "abcde"},
		{synced, math.MaxInt, 0xff, "abcde"},
		{fresh, 0, 1, ""},
		{fresh, -1, 1, ""},
		{fresh, 1, 1, "`"},
		{fresh, 5, 1, "abcdd"},
		{fresh, math.MaxInt, 2, "abcdg"},
		{api.Disk{}, 1, 1, ""},
		{api.Disk{Room: 3}, math.MaxInt, 0xff, ""},
		{api.Disk{Data: most, Room: api.MaxDisk}, api.MaxDisk, 0, most},
		{api.Disk{Data: most, Room: api.MaxDisk}, api.MaxDisk - 1, 1, most[2:] + "y"},
	} {
		got, errno := Fail(c.d, c.keep, c.bits)
		want := api.Disk{Data: c.data, Synced: len(c.data), Room: c.d.Room}
		wantDisk(t, fmt.Sprintf("Fail(%s, %d, %x)", told(c.d), c.keep, c.bits), got, errno, want, api.OK)
	}
}

// Promise 8.3: every byte, turned by all bits that it can be turned by.
func TestFailBits(t *testing.T) {
	for b := range 256 {
		for bits := range 256 {
			d := api.Disk{Data: string([]byte{'a', byte(b), byte(b), 'z'}), Synced: 1, Room: 9}
			got, errno := Fail(d, 2, byte(bits))
			want := api.Disk{Data: string([]byte{'a', byte(b), byte(b ^ bits)}), Synced: 3, Room: 9}
			wantDisk(t, fmt.Sprintf("Fail(%s, 2, %x)", told(d), bits), got, errno, want, api.OK)
		}
	}
}

// Promises 8.2 and 8.3: a disk that comes out keeps nothing of the strings that came in.
func TestNewMemory(t *testing.T) {
	s := strings.Repeat("s", 20)
	for _, d := range []api.Disk{
		{Data: strings.Repeat("d", 30), Synced: 20, Room: 100},
		{Data: strings.Repeat("d", 30), Synced: 30, Room: 30},
		{Data: strings.Repeat("d", 10), Synced: 10, Room: 10},
		{Data: strings.Repeat("d", 10), Room: 100},
		{Room: 100},
	} {
		for _, text := range []string{s, ""} {
			written, _ := Write(d, text)
			swapped, _ := Swap(d, text)
			apart(t, "Write", written, d, text)
			apart(t, "Swap", swapped, d, text)
		}
		synced, _ := Sync(d)
		apart(t, "Sync", synced, d, s)
		for keep := range 3 {
			failed, _ := Fail(d, 5*keep, 0)
			apart(t, "Fail", failed, d, s)
		}
	}
}

// apart fails a test if the data of a result lie inside an argument's memory.
func apart(t *testing.T, call string, got, d api.Disk, s string) {
	t.Helper()
	at := uintptr(unsafe.Pointer(unsafe.StringData(got.Data)))
	for _, argument := range []string{d.Data, s} {
		from := uintptr(unsafe.Pointer(unsafe.StringData(argument)))
		if len(got.Data) > 0 && from <= at && at < from+uintptr(len(argument)) {
			t.Errorf("%s of %s: the data lie in an argument's memory", call, told(d))
		}
	}
}

// Promise 8.4: of many disks that are written, synced, swapped and crash at random, next to what must be there.
func TestKept(t *testing.T) {
	source := rand.New(rand.NewSource(1))
	for range 300 {
		d, _ := New(40)
		synced := ""
		for range 60 {
			ahead := d
			var errno api.Errno
			switch source.Intn(8) {
			case 0, 1, 2:
				d, errno = Write(d, someString(source, 12))
			case 3, 4:
				d, errno = Sync(d)
				synced = d.Data
			case 5:
				d, errno = Swap(d, someString(source, 50))
				if errno == api.OK {
					synced = d.Data
				}
			default:
				d, errno = Fail(d, source.Intn(20)-4, byte(source.Intn(256)))
				wantPrefix(t, ahead, d)
			}
			if Check(d) != api.OK || errno != api.OK && (errno != api.ErrFull || d != ahead) {
				t.Fatalf("%s became %s, %d", told(ahead), told(d), errno)
			}
			if !strings.HasPrefix(d.Data, synced) || d.Synced < len(synced) {
				t.Fatalf("%s became %s; want %q to stay", told(ahead), told(d), synced)
			}
			synced = d.Data[:d.Synced]
		}
	}
}

// wantPrefix fails a test unless the data after a crash are what was synced and a prefix of the rest, but for its last byte.
func wantPrefix(t *testing.T, ahead, d api.Disk) {
	t.Helper()
	sure := max(ahead.Synced, len(d.Data)-1)
	if len(d.Data) < ahead.Synced || len(d.Data) > len(ahead.Data) || d.Data[:sure] != ahead.Data[:sure] {
		t.Fatalf("%s became %s by a crash", told(ahead), told(d))
	}
}

// someString is a string of fewer bytes than a bound.
func someString(source *rand.Rand, bound int) string {
	b := make([]byte, source.Intn(bound))
	source.Read(b)
	return string(b)
}

// Promise 8.4: crashes again and again take nothing that was synced, nor what the first crash left.
func TestKeptAgain(t *testing.T) {
	for keep := -1; keep < 5; keep++ {
		left, errno := Fail(example, keep, 0xff)
		for again := -1; again < 5 && errno == api.OK; again++ {
			var d api.Disk
			d, errno = Fail(left, again, 0x55)
			wantDisk(t, fmt.Sprintf("Fail(%s, %d, 55)", told(left), again), d, errno, left, api.OK)
		}
		if !strings.HasPrefix(left.Data, "ab") {
			t.Errorf("Fail(.., %d, ff) = %s", keep, told(left))
		}
	}
}
