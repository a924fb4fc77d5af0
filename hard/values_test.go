package hard_test

import (
	"encoding/binary"
	"fmt"
	"hash/crc32"
	"maps"
	"slices"
	"testing"

	"bursar/api"
	"bursar/disk"
	"bursar/hard"
)

// What the chapter and api tell in words, written anew.
const (
	long       = 256
	mostNumber = 1<<56 - 1
	mostNodes  = 7
	mostFiles  = 64
	mostRoom   = 1 << 20
	mostFrame  = 1 << 16

	old   = "hard"
	fresh = "hard.new"
)

// value answers a term and a vote.
func value(term uint64, vote int) api.Hard { return api.Hard{Term: term, Vote: vote} }

// row answers some values.
func row(some ...api.Hard) []api.Hard { return some }

// run answers values whose frames have ten bytes, with the terms from to last.
func run(from, last uint64) []api.Hard {
	var some []api.Hard
	for term := from; term <= last; term++ {
		some = append(some, value(term, int(term%(mostNodes+1))))
	}
	return some
}

// filling answers values whose frames, each of 10 to 17 bytes, have n bytes in all, which
// is 20 at least.
func filling(n int) (some []api.Hard) {
	more := n % 10
	for i := range n / 10 {
		size := min(more, 7)
		more -= size
		some = append(some, value(1<<(7*size), i%(mostNodes+1)))
	}
	return some
}

// laid answers the bytes of h as the chapter tells them, whether or not it may be.
func laid(h api.Hard) string {
	return string(append(binary.AppendUvarint(nil, h.Term), byte(h.Vote)))
}

// framed answers the frame of s as chapter 8 tells it.
func framed(s string) string {
	b := binary.LittleEndian.AppendUint32(nil, uint32(len(s)))
	sum := crc32.Checksum([]byte(s), crc32.MakeTable(crc32.Castagnoli))
	return string(binary.LittleEndian.AppendUint32(b, sum)) + s
}

// file answers the bytes of a file of some values.
func file(some ...api.Hard) string {
	var s string
	for _, h := range some {
		s += framed(laid(h))
	}
	return s
}

// files is what lies on a disk.
type files map[string]string

// made answers a new Disk with files, none of them synced.
func made(t *testing.T, m files) *disk.Disk {
	t.Helper()
	d, e := disk.New(mostRoom)
	if e != api.OK {
		t.Fatalf("7.1: New: %d", e)
	}
	for _, name := range slices.Sorted(maps.Keys(m)) {
		if e := d.Append(name, []byte(m[name])); e != api.OK {
			t.Fatalf("7.2: Append of %d bytes to %q: %d", len(m[name]), name, e)
		}
	}
	return d
}

// synced answers the same, but all of them are synced.
func synced(t *testing.T, m files) *disk.Disk {
	t.Helper()
	d := made(t, m)
	d.Sync()
	return d
}

// short answers the beginning of what v is told as.
func short(v any) string {
	s := fmt.Sprint(v)
	if len(s) > 200 {
		return s[:200] + ".."
	}
	return s
}

// opens fails where Open does not answer h.
func opens(t *testing.T, what string, d *disk.Disk, h api.Hard) {
	t.Helper()
	if got, e := hard.Open(d); got != h || e != api.OK {
		t.Errorf("%s: Open answers %v %d, not %v", what, got, e, h)
	}
}

// fails fails where Open does not answer an error.
func fails(t *testing.T, what string, d *disk.Disk, want api.Errno) {
	t.Helper()
	if got, e := hard.Open(d); got != (api.Hard{}) || e != want {
		t.Errorf("%s: Open answers %v %d, not %d", what, got, e, want)
	}
}

// saves fails where Save does not answer want.
func saves(t *testing.T, what string, d *disk.Disk, h api.Hard, want api.Errno) {
	t.Helper()
	if e := hard.Save(d, h); e != want {
		t.Errorf("%s: Save(%v) answers %d, not %d", what, h, e, want)
	}
}

// savesAll fails where one of some can't be saved.
func savesAll(t *testing.T, what string, d *disk.Disk, some []api.Hard) {
	t.Helper()
	for _, h := range some {
		saves(t, what, d, h, api.OK)
	}
}

// lies fails where d has other files than m.
func lies(t *testing.T, what string, d *disk.Disk, m files) {
	t.Helper()
	if got, want := d.Names(), slices.Sorted(maps.Keys(m)); !slices.Equal(got, want) {
		t.Errorf("%s: the files %q, not %q", what, got, want)
		return
	}
	for name, s := range m {
		if b, _ := d.Read(name); string(b) != s {
			t.Errorf("%s: in %q lies % .99x, not % .99x", what, name, b, s)
		}
	}
}

// waits fails where other than n operations of d are pending.
func waits(t *testing.T, what string, d *disk.Disk, n int) {
	t.Helper()
	if d.Pending() != n {
		t.Errorf("%s: %d operations, not %d", what, d.Pending(), n)
	}
}
