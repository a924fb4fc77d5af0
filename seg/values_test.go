package seg_test

import (
	"bytes"
	"encoding/binary"
	"fmt"
	"hash/crc32"
	"maps"
	"slices"
	"strings"
	"testing"

	"bursar/api"
	"bursar/disk"
	"bursar/seg"
)

// What the chapter and api tell in words, written anew.
const (
	leastLimit = 64
	mostLimit  = 1 << 14
	mostNumber = 1<<56 - 1
	mostData   = 128
	mostFiles  = 64
	mostRoom   = 1 << 20
)

// Short ways to write entries.

func none(term, index uint64) api.Entry { return api.Entry{Term: term, Index: index} }
func command(term, index uint64, data string) api.Entry {
	return api.Entry{Kind: api.EntryCmd, Term: term, Index: index, Data: []byte(data)}
}
func conf(term, index uint64, set int) api.Entry {
	return api.Entry{Kind: api.EntryConf, Term: term, Index: index, Conf: set}
}
func row(some ...api.Entry) []api.Entry { return some }

// sized answers a command whose frame has n bytes; there is one at least for 30 to 130.
func sized(term, index uint64, n int) api.Entry {
	least := len(file(command(term, index, "d")))
	return command(term, index, strings.Repeat("d", n-least+1))
}

// run answers commands whose frames have 30 bytes, with the indexes from to last.
func run(term, from, last uint64) []api.Entry {
	var some []api.Entry
	for index := from; index <= last; index++ {
		some = append(some, sized(term, index, 30))
	}
	return some
}

// laid answers the bytes of an entry as chapter 6 tells them, whether or not it may be.
func laid(x api.Entry) string {
	b := binary.AppendUvarint(binary.AppendUvarint([]byte{byte(x.Kind)}, x.Term), x.Index)
	switch x.Kind {
	case api.EntryCmd:
		b = append(binary.AppendUvarint(b, uint64(len(x.Data))), x.Data...)
	case api.EntryConf:
		b = append(b, byte(x.Conf))
	}
	return string(b)
}

// framed answers the frame of s as chapter 8 tells it.
func framed(s string) string {
	b := binary.LittleEndian.AppendUint32(nil, uint32(len(s)))
	sum := crc32.Checksum([]byte(s), crc32.MakeTable(crc32.Castagnoli))
	return string(binary.LittleEndian.AppendUint32(b, sum)) + s
}

// file answers the bytes of a segment of some entries.
func file(some ...api.Entry) string {
	var s string
	for _, x := range some {
		s += framed(laid(x))
	}
	return s
}

// name answers what a segment is called.
func name(first uint64) string { return fmt.Sprintf("s%015x", first) }

// named answers files by their names, of files by their first indexes.
func named(some map[uint64]string) map[string]string {
	m := map[string]string{}
	for first, s := range some {
		m[name(first)] = s
	}
	return m
}

// made answers a new Disk with files, none of them synced.
func made(t *testing.T, room int, some map[string]string) *disk.Disk {
	t.Helper()
	d, e := disk.New(room)
	if e != api.OK {
		t.Fatalf("7.1: New(%d): %d", room, e)
	}
	for name, s := range some {
		if e := d.Append(name, []byte(s)); e != api.OK {
			t.Fatalf("7.2: Append of %d bytes to %q: %d", len(s), name, e)
		}
	}
	return d
}

// blank answers a new Disk without files.
func blank(t *testing.T) *disk.Disk {
	t.Helper()
	return made(t, mostRoom, nil)
}

// opened opens a Log, which may not fail.
func opened(t *testing.T, d *disk.Disk, limit int) *seg.Log {
	t.Helper()
	l, e := seg.Open(d, limit)
	if l == nil || e != api.OK {
		t.Fatalf("9.2: Open(limit %d): %v %d", limit, l, e)
	}
	return l
}

// begun answers a new Disk, and its Log, to which some entries were appended.
func begun(t *testing.T, limit int, some ...api.Entry) (*disk.Disk, *seg.Log) {
	t.Helper()
	d := blank(t)
	l := opened(t, d, limit)
	asks(t, "9.4: at the beginning", l, add(some...), api.OK)
	return d, l
}

// short answers the beginning of what v is told as.
func short(v any) string {
	s := fmt.Sprint(v)
	if len(s) > 200 {
		return s[:200] + ".."
	}
	return s
}

// same tells whether two rows of entries are alike.
func same(some, others []api.Entry) bool {
	return slices.EqualFunc(some, others, func(x, y api.Entry) bool {
		return x.Kind == y.Kind && x.Term == y.Term && x.Index == y.Index && bytes.Equal(x.Data, y.Data) && x.Conf == y.Conf
	})
}

// firsts answers the first n entries that a range over l tells, which breaks off there.
func firsts(l *seg.Log, n int) []api.Entry {
	var got []api.Entry
	if n == 0 {
		return nil
	}
	for x := range l.All() {
		if got = append(got, x); len(got) == n {
			break
		}
	}
	return got
}

// holds fails where l tells other entries than some, by any of its methods.
func holds(t *testing.T, what string, l *seg.Log, some []api.Entry) {
	t.Helper()
	if got := l.List(); !same(got, some) {
		t.Errorf("%s: List tells %s, not %s", what, short(got), short(some))
	}
	if got := firsts(l, len(some)+1); !same(got, some) {
		t.Errorf("%s: All tells %s, not %s", what, short(got), short(some))
	}
	var first, last uint64
	if len(some) > 0 {
		first, last = some[0].Index, some[len(some)-1].Index
	}
	if l.First() != first || l.Last() != last {
		t.Errorf("%s: First %d, Last %d, not %d, %d", what, l.First(), l.Last(), first, last)
	}
}

// lies fails where d has other files than m.
func lies(t *testing.T, what string, d *disk.Disk, m map[string]string) {
	t.Helper()
	if got, want := d.Names(), slices.Sorted(maps.Keys(m)); !slices.Equal(got, want) {
		t.Errorf("%s: the files %q, not %q", what, got, want)
		return
	}
	for name, s := range m {
		if b, _ := d.Read(name); string(b) != s {
			t.Errorf("%s: in %q lies % .99x, not % .99x", what, name, b, s)
		}
	}
}

// call is one of those that change a Log.
type call struct {
	what    string
	entries []api.Entry
	index   uint64
}

func add(some ...api.Entry) call { return call{what: "Append", entries: some} }
func cut(index uint64) call      { return call{what: "Cut", index: index} }
func drop(index uint64) call     { return call{what: "Drop", index: index} }
func reset() call                { return call{what: "Reset"} }

// on asks c of l.
func (c call) on(l *seg.Log) api.Errno {
	switch c.what {
	case "Append":
		return l.Append(c.entries...)
	case "Cut":
		return l.Cut(c.index)
	case "Drop":
		return l.Drop(c.index)
	}
	return l.Reset()
}

// asks fails where l answers a call otherwise than by want.
func asks(t *testing.T, what string, l *seg.Log, c call, want api.Errno) {
	t.Helper()
	if e := c.on(l); e != want {
		t.Errorf("%s: %s(%d, %s): %d, not %d", what, c.what, c.index, short(c.entries), e, want)
	}
}
