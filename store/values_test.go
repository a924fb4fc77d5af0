package store_test

import (
	"bytes"
	"encoding/binary"
	"fmt"
	"hash/crc32"
	"maps"
	"slices"
	"strings"
	"testing"

	"bursar/api"
	"bursar/disk"
	"bursar/store"
)

// What the chapters and api tell in words, written anew.
const (
	leastLimit = 64
	mostLimit  = 1 << 14
	mostNumber = 1<<56 - 1
	mostNode   = 7
	mostConf   = 254
	mostData   = 128
	mostImage  = 1 << 15
	mostFiles  = 64
	mostRoom   = 1 << 20
	mostFrame  = 1 << 16
	long       = 256 // bytes of hard from which on it is laid anew

	hardName, hardNew = "hard", "hard.new"
	snapName, snapNew = "snap", "snap.new"
)

// Short ways to write what is stored.

func none(term, index uint64) api.Entry { return api.Entry{Term: term, Index: index} }
func command(term, index uint64, data string) api.Entry {
	return api.Entry{Kind: api.EntryCmd, Term: term, Index: index, Data: []byte(data)}
}
func conf(term, index uint64, set int) api.Entry {
	return api.Entry{Kind: api.EntryConf, Term: term, Index: index, Conf: set}
}
func row(some ...api.Entry) []api.Entry    { return some }
func votes(term uint64, vote int) api.Hard { return api.Hard{Term: term, Vote: vote} }
func snap(index, term uint64, data string) api.Snap {
	return api.Snap{Base: api.Base{Index: index, Term: term, Conf: 14}, Data: []byte(data)}
}

// sized answers a command whose frame has n bytes; there is one at least for 30 to 130.
func sized(term, index uint64, n int) api.Entry {
	least := len(segment(command(term, index, "d")))
	return command(term, index, strings.Repeat("d", n-least+1))
}

// run answers commands whose frames have 30 bytes, with the indexes from to last: a
// segment of leastLimit takes two.
func run(term, from, last uint64) []api.Entry {
	var some []api.Entry
	for index := from; index <= last; index++ {
		some = append(some, sized(term, index, 30))
	}
	return some
}

// num answers n as chapter 1 tells it.
func num(n uint64) string { return string(binary.AppendUvarint(nil, n)) }

// framed answers the frame of s as chapter 8 tells it.
func framed(s string) string {
	b := binary.LittleEndian.AppendUint32(nil, uint32(len(s)))
	sum := crc32.Checksum([]byte(s), crc32.MakeTable(crc32.Castagnoli))
	return string(binary.LittleEndian.AppendUint32(b, sum)) + s
}

// laidEntry answers the bytes of an entry as chapter 6 tells them, whether or not it may be.
func laidEntry(x api.Entry) string {
	s := string([]byte{byte(x.Kind)}) + num(x.Term) + num(x.Index)
	switch x.Kind {
	case api.EntryCmd:
		s += num(uint64(len(x.Data))) + string(x.Data)
	case api.EntryConf:
		s += string([]byte{byte(x.Conf)})
	}
	return s
}

// laidHard answers the bytes of h as chapter 10 tells them.
func laidHard(h api.Hard) string { return num(h.Term) + string([]byte{byte(h.Vote)}) }

// laidSnap answers the bytes of p as chapter 11 tells them.
func laidSnap(p api.Snap) string {
	s := num(p.Base.Index) + num(p.Base.Term) + string([]byte{byte(p.Base.Conf)})
	return s + num(uint64(len(p.Data))) + string(p.Data)
}

// segment answers the bytes of a segment of some entries.
func segment(some ...api.Entry) (s string) {
	for _, x := range some {
		s += framed(laidEntry(x))
	}
	return s
}

// hards answers the bytes of a file hard to which some were saved.
func hards(some ...api.Hard) (s string) {
	for _, h := range some {
		s += framed(laidHard(h))
	}
	return s
}

// image answers the bytes of a file of a snapshot.
func image(p api.Snap) string { return framed(laidSnap(p)) }

// name answers what a segment is called.
func name(first uint64) string { return fmt.Sprintf("s%015x", first) }

// stored answers the files of a store in whose log lie rows of entries, one a segment;
// there is no file hard where h is zero, and no file snap where p has no index.
func stored(h api.Hard, p api.Snap, rows ...[]api.Entry) files {
	m := files{}
	if h != (api.Hard{}) {
		m[hardName] = hards(h)
	}
	if p.Base.Index > 0 {
		m[snapName] = image(p)
	}
	for _, some := range rows {
		m[name(some[0].Index)] = segment(some...)
	}
	return m
}

// made answers a new Disk with files, all of them synced.
func made(t *testing.T, m files) *disk.Disk {
	t.Helper()
	d, e := disk.New(mostRoom)
	if e != api.OK {
		t.Fatalf("7.1: New: %d", e)
	}
	for _, name := range slices.Sorted(maps.Keys(m)) {
		if e := d.Append(name, []byte(m[name])); e != api.OK {
			t.Fatalf("7.2: Append of %d bytes to %q: %d", len(m[name]), name, e)
		}
	}
	d.Sync()
	return d
}

// short answers the beginning of what v is told as.
func short(v any) string {
	s := fmt.Sprintf("%+v", v)
	if len(s) > 300 {
		return s[:300] + ".."
	}
	return s
}

// same tells whether two rows of entries are alike.
func same(some, others []api.Entry) bool {
	return slices.EqualFunc(some, others, func(x, y api.Entry) bool {
		return x.Kind == y.Kind && x.Term == y.Term && x.Index == y.Index && bytes.Equal(x.Data, y.Data) && x.Conf == y.Conf
	})
}

// sameSnap tells whether two snapshots are alike.
func sameSnap(a, b api.Snap) bool { return a.Base == b.Base && bytes.Equal(a.Data, b.Data) }

// told answers what Open is to tell.
func told(h api.Hard, p api.Snap, some ...api.Entry) store.Got {
	return store.Got{Hard: h, Snap: p, Entries: some}
}

// alike tells whether two things that Open told are alike.
func alike(a, b store.Got) bool {
	return a.Hard == b.Hard && sameSnap(a.Snap, b.Snap) && same(a.Entries, b.Entries)
}

// opened opens a store, which may not fail.
func opened(t *testing.T, what string, d *disk.Disk, limit int) (*store.Store, store.Got) {
	t.Helper()
	s, got, e := store.Open(d, limit)
	if s == nil || e != api.OK {
		t.Fatalf("%s: Open(limit %d): %v %d", what, limit, s, e)
	}
	if d.Pending() != 0 {
		t.Errorf("12.1: %s: behind Open %d operations are pending", what, d.Pending())
	}
	return s, got
}

// opens fails where Open does not tell want, or answers a store with another last index.
func opens(t *testing.T, what string, d *disk.Disk, want store.Got) *store.Store {
	t.Helper()
	s, got := opened(t, what, d, leastLimit)
	if !alike(got, want) {
		t.Errorf("%s: Open tells %s, not %s", what, short(got), short(want))
	}
	return s
}

// refuses fails where Open does not answer an error and nothing else.
func refuses(t *testing.T, what string, d *disk.Disk, limit int, want api.Errno) {
	t.Helper()
	s, got, e := store.Open(d, limit)
	if s != nil || !alike(got, store.Got{}) || e != want {
		t.Errorf("%s: Open(limit %d): %v %s %d, not %d", what, limit, s, short(got), e, want)
	}
}

// lies fails where d has other files than m.
func lies(t *testing.T, what string, d *disk.Disk, m files) {
	t.Helper()
	if got, want := d.Names(), slices.Sorted(maps.Keys(m)); !slices.Equal(got, want) {
		t.Errorf("%s: the files %q, not %q", what, got, want)
		return
	}
	for name, s := range m {
		if b, _ := d.Read(name); string(b) != s {
			t.Errorf("%s: in %q lie %d bytes % .60x, not %d % .60x", what, name, len(b), b, len(s), s)
		}
	}
}

// ends fails where s does not answer last.
func ends(t *testing.T, what string, s *store.Store, last uint64) {
	t.Helper()
	if s.Last() != last {
		t.Errorf("%s: Last %d, not %d", what, s.Last(), last)
	}
}

// step is a call that stores something.
type step struct {
	what    string
	hard    api.Hard
	from    uint64
	entries []api.Entry
	snap    api.Snap
	keep    bool
}

func saving(h api.Hard, from uint64, some ...api.Entry) step {
	return step{what: "Save", hard: h, from: from, entries: some}
}
func photo(p api.Snap, keep bool) step { return step{what: "Photo", snap: p, keep: keep} }

// on asks x of s.
func (x step) on(s *store.Store) api.Errno {
	if x.what == "Save" {
		return s.Save(x.hard, x.from, x.entries)
	}
	return s.Photo(x.snap, x.keep)
}

// String tells x for what fails.
func (x step) String() string {
	if x.what == "Save" {
		return fmt.Sprintf("Save(%v, %d, %s)", x.hard, x.from, short(x.entries))
	}
	return fmt.Sprintf("Photo(%s, %v)", short(x.snap), x.keep)
}

// asks fails where s answers a step otherwise than by want.
func asks(t *testing.T, what string, s *store.Store, x step, want api.Errno) {
	t.Helper()
	if e := x.on(s); e != want {
		t.Errorf("%s: %v: %d, not %d", what, x, e, want)
	}
}
