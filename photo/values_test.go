package photo_test

import (
	"encoding/binary"
	"fmt"
	"hash/crc32"
	"maps"
	"slices"
	"strings"
	"testing"

	"bursar/api"
	"bursar/disk"
	"bursar/photo"
)

// What the chapter and api tell in words, written anew.
const (
	mostNumber = 1<<56 - 1
	mostConf   = 254
	mostData   = 1 << 15
	mostFiles  = 64
	mostRoom   = 1 << 20
	mostFrame  = 1 << 16

	old   = "snap"
	fresh = "snap.new"
)

// snap answers a snapshot.
func snap(index, term uint64, conf int, data string) api.Snap {
	return api.Snap{Base: api.Base{Index: index, Term: term, Conf: conf}, Data: []byte(data)}
}

// row answers some snapshots.
func row(some ...api.Snap) []api.Snap { return some }

// run answers snapshots with the indexes from to last, and 0 to 6 bytes.
func run(from, last uint64) []api.Snap {
	var some []api.Snap
	for index := from; index <= last; index++ {
		some = append(some, snap(index, index/2+1, 2*int(index%127+1), filled(int(index%7))))
	}
	return some
}

// filled answers n bytes, of which any five tell where they lie.
func filled(n int) string {
	b := make([]byte, n)
	for i := range b {
		b[i] = byte(i + i/256*7)
	}
	return string(b)
}

// same tells whether two snapshots are alike.
func same(a, b api.Snap) bool { return a.Base == b.Base && string(a.Data) == string(b.Data) }

// num answers n as chapter 1 tells it.
func num(n uint64) string { return string(binary.AppendUvarint(nil, n)) }

// laid answers the bytes of s as the chapter tells them, whether or not it may be.
func laid(s api.Snap) string {
	b := num(s.Base.Index) + num(s.Base.Term) + string([]byte{byte(s.Base.Conf)})
	return b + num(uint64(len(s.Data))) + string(s.Data)
}

// framed answers the frame of s as chapter 8 tells it.
func framed(s string) string {
	b := binary.LittleEndian.AppendUint32(nil, uint32(len(s)))
	sum := crc32.Checksum([]byte(s), crc32.MakeTable(crc32.Castagnoli))
	return string(binary.LittleEndian.AppendUint32(b, sum)) + s
}

// file answers the bytes of the file of s.
func file(s api.Snap) string { return framed(laid(s)) }

// files is what lies on a disk.
type files map[string]string

// made answers a new Disk with files, none of them synced.
func made(t *testing.T, m files) *disk.Disk {
	t.Helper()
	d, e := disk.New(mostRoom)
	if e != api.OK {
		t.Fatalf("7.1: New: %d", e)
	}
	for _, name := range slices.Sorted(maps.Keys(m)) {
		if e := d.Append(name, []byte(m[name])); e != api.OK {
			t.Fatalf("7.2: Append of %d bytes to %q: %d", len(m[name]), name, e)
		}
	}
	return d
}

// synced answers the same, but all of them are synced.
func synced(t *testing.T, m files) *disk.Disk {
	t.Helper()
	d := made(t, m)
	d.Sync()
	return d
}

// short answers the beginning of what v is told as.
func short(v any) string {
	s := fmt.Sprint(v)
	if len(s) > 120 {
		return s[:120] + ".."
	}
	return s
}

// answers fails where Open does not answer s, ok and want.
func answers(t *testing.T, what string, d *disk.Disk, s api.Snap, ok bool, want api.Errno) {
	t.Helper()
	got, there, e := photo.Open(d)
	if !same(got, s) || there != ok || e != want {
		t.Errorf("%s: Open answers %s %v %d, not %s %v %d", what, short(got), there, e, short(s), ok, want)
	}
}

// opens fails where Open does not answer s.
func opens(t *testing.T, what string, d *disk.Disk, s api.Snap) {
	t.Helper()
	answers(t, what, d, s, true, api.OK)
}

// misses fails where Open does not answer that there is no snapshot.
func misses(t *testing.T, what string, d *disk.Disk) {
	t.Helper()
	answers(t, what, d, api.Snap{}, false, api.OK)
}

// fails fails where Open does not answer an error.
func fails(t *testing.T, what string, d *disk.Disk, want api.Errno) {
	t.Helper()
	answers(t, what, d, api.Snap{}, false, want)
}

// finds fails where Open does not answer what is told by the files m.
func finds(t *testing.T, what string, d *disk.Disk, m files) {
	t.Helper()
	s, ok := read(m[old])
	answers(t, what, d, s, ok, api.OK)
}

// saves fails where Save does not answer want.
func saves(t *testing.T, what string, d *disk.Disk, s api.Snap, want api.Errno) {
	t.Helper()
	if e := photo.Save(d, s); e != want {
		t.Errorf("%s: Save(%s) answers %d, not %d", what, short(s), e, want)
	}
}

// savesAll fails where one of some can't be saved.
func savesAll(t *testing.T, what string, d *disk.Disk, some []api.Snap) {
	t.Helper()
	for _, s := range some {
		saves(t, what, d, s, api.OK)
	}
}

// lies fails where d has other files than m.
func lies(t *testing.T, what string, d *disk.Disk, m files) {
	t.Helper()
	if got, want := d.Names(), slices.Sorted(maps.Keys(m)); !slices.Equal(got, want) {
		t.Errorf("%s: the files %q, not %q", what, got, want)
		return
	}
	for name, s := range m {
		if b, _ := d.Read(name); string(b) != s {
			t.Errorf("%s: in %q lie %d bytes % .40x, not %d % .40x", what, name, len(b), b, len(s), s)
		}
	}
}

// waits fails where other than n operations of d are pending.
func waits(t *testing.T, what string, d *disk.Disk, n int) {
	t.Helper()
	if d.Pending() != n {
		t.Errorf("%s: %d operations, not %d", what, d.Pending(), n)
	}
}

// lefts answers what may lie in snap.new.
func lefts() []string {
	s := file(snap(8, 3, 6, "left"))
	return []string{"", "x", s, s[:4], s + s, s + "x", strings.Repeat("x", 9999)}
}
