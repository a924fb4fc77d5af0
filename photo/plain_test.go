package photo_test

import (
	"encoding/binary"
	"hash/crc32"
	"maps"

	"bursar/api"
)

// operation is one of the disk: what lies there behind it, and how many bytes it appends
// to which file.
type operation struct {
	left files
	name string
	size int
}

// with answers m with one file that is another, or none where s is nil.
func (m files) with(name string, s *string) files {
	m = maps.Clone(m)
	if m == nil {
		m = files{}
	}
	if delete(m, name); s != nil {
		m[name] = *s
	}
	return m
}

// without answers m without one file.
func (m files) without(name string) files { return m.with(name, nil) }

// has tells whether there is a file.
func (m files) has(name string) bool {
	_, ok := m[name]
	return ok
}

// bytes answers how many bytes all files have.
func (m files) bytes() (n int) {
	for _, s := range m {
		n += len(s)
	}
	return n
}

// saving answers the operations that Save does, as the chapter tells them, where none fails.
func (m files) saving(x api.Snap) []operation {
	some := m.opening()
	s := file(x)
	m = m.without(fresh)
	some = append(some, operation{m.with(fresh, &s), fresh, len(s)})
	return append(some, operation{left: m.with(old, &s)})
}

// opening answers the operations that Open does, where none fails.
func (m files) opening() []operation {
	if !m.has(fresh) {
		return nil
	}
	return []operation{{left: m.without(fresh)}}
}

// number reads a number at the beginning of s, and answers what is behind it.
func number(s string) (uint64, string, bool) {
	n, size := binary.Uvarint([]byte(s))
	if size <= 0 {
		return 0, "", false
	}
	return n, s[size:], true
}

// read reads 11.2 anew: the snapshot that is told by a file of s, and whether there is one.
func read(s string) (api.Snap, bool) {
	var none api.Snap
	if len(s) < 8 || len(s)-8 > mostFrame {
		return none, false
	}
	part := s[8:]
	sum := crc32.Checksum([]byte(part), crc32.MakeTable(crc32.Castagnoli))
	if int(binary.LittleEndian.Uint32([]byte(s))) != len(part) || binary.LittleEndian.Uint32([]byte(s[4:])) != sum {
		return none, false
	}
	index, rest, ok := number(part)
	term, rest, also := number(rest)
	if !ok || !also || len(rest) == 0 {
		return none, false
	}
	conf := int(rest[0])
	size, rest, ok := number(rest[1:])
	if !ok || size != uint64(len(rest)) {
		return none, false
	}
	x := snap(index, term, conf, rest)
	right := index >= 1 && index <= mostNumber && term >= 1 && term <= mostNumber
	right = right && conf >= 2 && conf%2 == 0 && size <= mostData
	// Of several ways to write a number only the shortest may be.
	if !right || laid(x) != part {
		return none, false
	}
	return x, true
}

// past is what was done to a disk since it was synced: what lay there then, and behind
// each operation.
type past struct {
	begin files
	done  []operation
}

// saved answers what is done to a disk with some files while some snapshots are saved.
func saved(m files, some []api.Snap) past {
	p := past{begin: m}
	for _, s := range some {
		p.done = append(p.done, p.now().saving(s)...)
	}
	return p
}

// now answers what lies there.
func (p past) now() files { return p.after(len(p.done)) }

// after answers what lies there behind the first n operations.
func (p past) after(n int) files {
	if n == 0 {
		return p.begin
	}
	return p.done[n-1].left
}

// torn answers how many ways there are to cut off the operation behind the first n.
func (p past) torn(n int) int {
	if n == len(p.done) {
		return 1
	}
	return max(p.done[n].size, 1)
}

// crashed answers what a crash leaves that keeps n operations, and of the next one some
// bytes if it is one that appends.
func (p past) crashed(n, torn int) files {
	m := p.after(n)
	if n == len(p.done) || p.done[n].size == 0 || torn%p.done[n].size == 0 {
		return m
	}
	o := p.done[n]
	s := o.left[o.name]
	s = s[:len(s)-o.size+torn%o.size]
	return m.with(o.name, &s)
}
