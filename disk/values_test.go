package disk_test

import (
	"bytes"
	"maps"
	"slices"
	"strings"
	"testing"

	"bursar/api"
	"bursar/disk"
)

// What the chapter and api tell in words, written anew.
const (
	mostRoom  = 1 << 20
	mostFiles = 64
	mostName  = 16
)

// made answers a new Disk.
func made(t *testing.T, room int) *disk.Disk {
	t.Helper()
	d, e := disk.New(room)
	if d == nil || e != api.OK {
		t.Fatalf("7.1: New(%d): %v %d", room, d, e)
	}
	return d
}

// call is one of the five that may fail.
type call struct {
	what, name, to string
	data           string
	size           int
}

// Short ways to write calls, names and bytes.

func add(name, data string) call      { return call{what: "Append", name: name, data: data} }
func cut(name string, size int) call  { return call{what: "Truncate", name: name, size: size} }
func move(from, to string) call       { return call{what: "Rename", name: from, to: to} }
func drop(name string) call           { return call{what: "Remove", name: name} }
func sync() call                      { return call{what: "Sync"} }
func row(some ...call) []call         { return some }
func name(n int) string               { return strings.Repeat("n", n) }
func letters(n int) string            { return strings.Repeat("x", n) }
func (c call) is(what ...string) bool { return slices.Contains(what, c.what) }

// on asks c of d.
func (c call) on(d *disk.Disk) api.Errno {
	switch c.what {
	case "Append":
		return d.Append(c.name, []byte(c.data))
	case "Truncate":
		return d.Truncate(c.name, c.size)
	case "Rename":
		return d.Rename(c.name, c.to)
	case "Remove":
		return d.Remove(c.name)
	}
	return d.Sync()
}

// asks fails where d answers a call otherwise than by want.
func asks(t *testing.T, what string, d *disk.Disk, c call, want api.Errno) {
	t.Helper()
	if e := c.on(d); e != want {
		t.Errorf("%s: %s of %q (to %q, size %d, %d bytes): %d, not %d", what, c.what, c.name, c.to, c.size, len(c.data), e, want)
	}
}

// all asks calls one after the other, none of which may fail.
func all(t *testing.T, d *disk.Disk, some ...call) {
	t.Helper()
	for _, c := range some {
		asks(t, "7.2", d, c, api.OK)
	}
}

// begun answers a new Disk of which calls were asked.
func begun(t *testing.T, room int, some ...call) *disk.Disk {
	t.Helper()
	d := made(t, room)
	all(t, d, some...)
	return d
}

// shown answers the files of d.
func shown(d *disk.Disk) map[string]string {
	m := map[string]string{}
	for _, name := range d.Names() {
		b, ok := d.Read(name)
		if !ok {
			m[name] = "(none)"
			continue
		}
		m[name] = string(b)
	}
	return m
}

// bytesOf answers how many bytes files have.
func bytesOf(m map[string]string) (n int) {
	for _, s := range m {
		n += len(s)
	}
	return n
}

// holds fails where d shows other files than m, by any of its methods.
func holds(t *testing.T, what string, d *disk.Disk, m map[string]string) {
	t.Helper()
	if got, want := d.Names(), slices.Sorted(maps.Keys(m)); !slices.Equal(got, want) {
		t.Errorf("%s: Names %q, not %q", what, got, want)
	}
	for name, want := range m {
		if b, ok := d.Read(name); string(b) != want || !ok {
			t.Errorf("%s: Read of %q: %.40q (%d bytes) %v, not %.40q (%d bytes)", what, name, b, len(b), ok, want, len(want))
		}
	}
	for _, name := range []string{"", "a", "b", "c", "no such", name(mostName), name(mostName + 1)} {
		if _, ok := m[name]; ok {
			continue
		}
		if b, ok := d.Read(name); len(b) > 0 || ok {
			t.Errorf("%s: Read of %q: %.40q %v, there is none", what, name, b, ok)
		}
	}
	if n := d.Used(); n != bytesOf(m) {
		t.Errorf("%s: Used %d, not %d", what, n, bytesOf(m))
	}
}

// stands fails where d has another number of operations pending, or is not up or down
// as it should.
func stands(t *testing.T, what string, d *disk.Disk, pending int, down bool) {
	t.Helper()
	if d.Pending() != pending || d.Down() != down {
		t.Errorf("%s: Pending %d, Down %v, not %d, %v", what, d.Pending(), d.Down(), pending, down)
	}
}

// crashes fails where a crash of d answers another number than k, or leaves other
// files than m, or leaves anything pending, or d down; or where another crash, that
// keeps nothing, changes that.
func crashes(t *testing.T, what string, d *disk.Disk, keep, torn, k int, m map[string]string) {
	t.Helper()
	if got := d.Crash(keep, torn); got != k {
		t.Errorf("%s: Crash(%d, %d): %d, not %d", what, keep, torn, got, k)
	}
	holds(t, what, d, m)
	stands(t, what, d, 0, false)
	if got := d.Crash(0, 0); got != 0 {
		t.Errorf("%s: Crash once more: %d", what, got)
	}
	holds(t, what+", once more", d, m)
}

// scrawl writes over b and over the room behind it.
func scrawl(b []byte) {
	b = b[:cap(b)]
	for i := range b {
		b[i] = 0xee
	}
}

// roomy answers b, and all the memory that it lies in: b with room behind it, marked.
func roomy(s string) (given, whole []byte) {
	whole = append([]byte(s), bytes.Repeat([]byte{0xcc}, 16)...)
	return whole[:len(s)], whole
}
