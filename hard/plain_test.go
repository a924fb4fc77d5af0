package hard_test

import (
	"encoding/binary"
	"hash/crc32"
	"maps"

	"bursar/api"
)

// operation is one of the disk: what lies there behind it, and how many bytes it appends
// to which file.
type operation struct {
	left files
	name string
	size int
}

// with answers m with one file that is another, or none where s is nil.
func (m files) with(name string, s *string) files {
	m = maps.Clone(m)
	if m == nil {
		m = files{}
	}
	if delete(m, name); s != nil {
		m[name] = *s
	}
	return m
}

// appending answers the operation that appends s to a file of m.
func (m files) appending(name, s string) operation {
	all := m[name] + s
	return operation{m.with(name, &all), name, len(s)}
}

// has tells whether there is a file.
func (m files) has(name string) bool {
	_, ok := m[name]
	return ok
}

// saving answers the operations that Save does, as the chapter tells them, where none fails.
func (m files) saving(h api.Hard) (some []operation) {
	if len(m[old]) < long {
		return []operation{m.appending(old, file(h))}
	}
	if m.has(fresh) {
		m = m.with(fresh, nil)
		some = append(some, operation{left: m})
	}
	o := m.appending(fresh, file(h))
	s := o.left[fresh]
	return append(some, o, operation{left: o.left.with(fresh, nil).with(old, &s)})
}

// opening answers the operations that Open does, where none fails.
func (m files) opening() (some []operation) {
	if m.has(fresh) {
		m = m.with(fresh, nil)
		some = append(some, operation{left: m})
	}
	if _, s := read(m[old]); s != m[old] {
		some = append(some, operation{left: m.with(old, &s)})
	}
	return some
}

// read reads 10.2 anew: what is told last by the frames that lie in s, and which bytes of
// s are left.
func read(s string) (h api.Hard, left string) {
	rest := s
	for len(rest) >= 8 {
		size := uint64(binary.LittleEndian.Uint32([]byte(rest)))
		sum := binary.LittleEndian.Uint32([]byte(rest[4:]))
		if size > mostFrame || size > uint64(len(rest)-8) {
			break
		}
		part := rest[8 : 8+size]
		if crc32.Checksum([]byte(part), crc32.MakeTable(crc32.Castagnoli)) != sum {
			break
		}
		term, n := binary.Uvarint([]byte(part))
		if n <= 0 || len(part) != n+1 || term > mostNumber || part[n] > mostNodes {
			break
		}
		x := value(term, int(part[n]))
		// Of several ways to write a number only the shortest may be.
		if laid(x) != part {
			break
		}
		h, rest = x, rest[8+size:]
	}
	return h, s[:len(s)-len(rest)]
}

// past is what was done to a disk since it was synced: what lay there then, and behind
// each operation.
type past struct {
	begin files
	done  []operation
}

// now answers what lies there.
func (p past) now() files { return p.after(len(p.done)) }

// after answers what lies there behind the first n operations.
func (p past) after(n int) files {
	if n == 0 {
		return p.begin
	}
	return p.done[n-1].left
}

// torn answers how many ways there are to cut off the operation behind the first n.
func (p past) torn(n int) int {
	if n == len(p.done) {
		return 1
	}
	return max(p.done[n].size, 1)
}

// crashed answers what a crash leaves that keeps n operations, and of the next one some
// bytes if it is one that appends.
func (p past) crashed(n, torn int) files {
	m := p.after(n)
	if n == len(p.done) || p.done[n].size == 0 || torn%p.done[n].size == 0 {
		return m
	}
	o := p.done[n]
	s := o.left[o.name]
	s = s[:len(s)-o.size+torn%o.size]
	return m.with(o.name, &s)
}
