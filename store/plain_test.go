package store_test

import (
	"encoding/binary"
	"hash/crc32"
	"maps"
	"regexp"
	"slices"

	"bursar/api"
	"bursar/store"
)

// files is what lies on a disk.
type files map[string]string

// with answers m with one file that is another.
func (m files) with(name, s string) files {
	m = maps.Clone(m)
	if m == nil {
		m = files{}
	}
	m[name] = s
	return m
}

// without answers m without one file.
func (m files) without(name string) files {
	m = maps.Clone(m)
	delete(m, name)
	return m
}

// has tells whether there is a file.
func (m files) has(name string) bool {
	_, ok := m[name]
	return ok
}

// bytes answers how many bytes all files have.
func (m files) bytes() (n int) {
	for _, s := range m {
		n += len(s)
	}
	return n
}

// operation is one of the disk: what lies there behind it, how many bytes it appends to
// which file, and whether it is a Sync.
type operation struct {
	left files
	name string
	size int
	sync bool
}

// plan is what the chapters tell to do, operation by operation, where none fails.
type plan struct {
	now  files
	some []operation
}

func (p *plan) do(o operation) { p.now, p.some = o.left, append(p.some, o) }

func (p *plan) append(name, s string) {
	p.do(operation{left: p.now.with(name, p.now[name]+s), name: name, size: len(s)})
}
func (p *plan) truncate(name string, size int) {
	p.do(operation{left: p.now.with(name, p.now[name][:size])})
}
func (p *plan) rename(from, to string) {
	p.do(operation{left: p.now.without(from).with(to, p.now[from])})
}
func (p *plan) remove(name string) { p.do(operation{left: p.now.without(name)}) }
func (p *plan) sync()              { p.do(operation{left: p.now, sync: true}) }

// clear takes a file away if there is one.
func (p *plan) clear(name string) {
	if p.now.has(name) {
		p.remove(name)
	}
}

// renew lays s in a new file, which takes the place of an old one.
func (p *plan) renew(fresh, name, s string) {
	p.clear(fresh)
	p.append(fresh, s)
	p.rename(fresh, name)
}

// parts is a log: the entries of its segments.
type parts [][]api.Entry

// entries answers the entries of all segments.
func (l parts) entries() []api.Entry { return slices.Concat(l...) }

// ends answers the first index and the last one, or 0.
func (l parts) ends() (first, last uint64) {
	if all := l.entries(); len(all) > 0 {
		return all[0].Index, all[len(all)-1].Index
	}
	return 0, 0
}

// term answers the term of the entry with an index, or 0.
func (l parts) term(index uint64) uint64 {
	for _, x := range l.entries() {
		if x.Index == index {
			return x.Term
		}
	}
	return 0
}

// cut takes away what there is from an index on, as chapter 9 tells it.
func (p *plan) cut(l parts, index uint64) parts {
	for len(l) > 0 && l[len(l)-1][0].Index >= index {
		p.remove(name(l[len(l)-1][0].Index))
		l = l[:len(l)-1]
	}
	if _, last := l.ends(); len(l) == 0 || last < index {
		return l
	}
	tail := l[len(l)-1]
	left := tail[:index-tail[0].Index]
	p.truncate(name(tail[0].Index), len(segment(left...)))
	return append(slices.Clone(l[:len(l)-1]), left)
}

// add appends entries, as chapter 9 tells it.
func (p *plan) add(l parts, some []api.Entry, limit int) parts {
	l = slices.Clone(l)
	for _, x := range some {
		n := len(l) - 1
		if n < 0 || len(segment(l[n]...))+len(segment(x)) > limit {
			l = append(l, nil)
			n++
		}
		l[n] = append(slices.Clone(l[n]), x)
		p.append(name(l[n][0].Index), segment(x))
	}
	return l
}

// drop takes away whole segments that end at an index or ahead of it, but not the last.
func (p *plan) drop(l parts, index uint64) parts {
	for len(l) > 1 && l[0][len(l[0])-1].Index <= index {
		p.remove(name(l[0][0].Index))
		l = l[1:]
	}
	return l
}

// kept is a store as the chapter tells it, by other means.
type kept struct {
	limit int
	hard  api.Hard
	log   parts
}

// opening reads 12.1 anew: what Open of files tells, which store it answers, and what it
// does.
func opening(m files, limit int) (store.Got, kept, []operation) {
	p := &plan{now: m}
	p.clear(snapNew)
	s := readSnap(m[snapName])
	p.clear(hardNew)
	h, end := readHards(m[hardName])
	if end < len(m[hardName]) {
		p.truncate(hardName, end)
	}
	l := p.readLog()
	if !l.goesOn(s.Base) {
		l = p.cut(l, 0)
	}
	p.sync()
	got := told(h, s)
	least := s.Base.Term
	for _, x := range l.entries() {
		if x.Index > s.Base.Index {
			got.Entries = append(got.Entries, x)
			least = x.Term
		}
	}
	if h.Term < least {
		got.Hard = votes(least, 0)
	}
	return got, kept{limit, got.Hard, l}, p.some
}

// goesOn reads the second step of 12.1 anew.
func (l parts) goesOn(b api.Base) bool {
	if len(l) == 0 {
		return true
	}
	first, last := l.ends()
	if last < b.Index || first > b.Index+1 {
		return false
	}
	at, next := l.term(b.Index), l.term(b.Index+1)
	return !(at > 0 && at != b.Term) && !(next > 0 && next < b.Term)
}

// asked reads 12.2 and 12.3 anew: whether a step may be, and if so which store it makes
// of k, whose files are m, and what it does.
func (k kept) asked(m files, x step) (bool, kept, []operation) {
	if x.what == "Save" {
		return k.saved(m, x)
	}
	return k.shot(m, x)
}

func (k kept) saved(m files, x step) (bool, kept, []operation) {
	if !rightHard(x.hard) || !k.takes(x) {
		return false, k, nil
	}
	p := &plan{now: m}
	if x.hard != k.hard {
		f := hards(x.hard)
		if len(m[hardName]) < long {
			p.append(hardName, f)
		} else {
			p.renew(hardNew, hardName, f)
		}
		k.hard = x.hard
	}
	if len(x.entries) > 0 {
		k.log = p.add(p.cut(k.log, x.from), x.entries, k.limit)
	}
	if len(p.some) > 0 {
		p.sync()
	}
	return true, k, p.some
}

// takes tells whether the entries of a Save may be.
func (k kept) takes(x step) bool {
	_, last := k.log.ends()
	least := k.log.term(x.from - 1)
	for i, y := range x.entries {
		if !rightEntry(y) || y.Index != x.from+uint64(i) || y.Term < least || last > 0 && x.from > last+1 {
			return false
		}
		least = y.Term
	}
	return true
}

func (k kept) shot(m files, x step) (bool, kept, []operation) {
	if !rightSnap(x.snap) {
		return false, k, nil
	}
	p := &plan{now: m}
	p.renew(snapNew, snapName, image(x.snap))
	p.sync()
	if x.keep {
		k.log = p.drop(k.log, x.snap.Base.Index)
	} else {
		k.log = p.cut(k.log, 0)
	}
	p.sync()
	return true, k, p.some
}

// outcome answers how many of some operations are done on a disk with a room and a fuse,
// and what is answered then.
func outcome(some []operation, fuse, room int) (int, api.Errno) {
	for i, o := range some {
		if i == fuse {
			return i, api.ErrDown
		}
		if o.size > 0 && (o.left.bytes() > room || len(o.left) > mostFiles) {
			return i, api.ErrFull
		}
	}
	return len(some), api.OK
}

func number(n uint64) bool { return n >= 1 && n <= mostNumber }
func set(n int) bool       { return n >= 2 && n <= mostConf && n%2 == 0 }

func rightHard(h api.Hard) bool { return h.Term <= mostNumber && h.Vote >= 0 && h.Vote <= mostNode }
func rightSnap(p api.Snap) bool {
	return number(p.Base.Index) && number(p.Base.Term) && set(p.Base.Conf) && len(p.Data) <= mostImage
}
func rightEntry(x api.Entry) bool {
	fields := x.Kind == api.EntryNone && len(x.Data) == 0 && x.Conf == 0
	fields = fields || x.Kind == api.EntryCmd && len(x.Data) > 0 && len(x.Data) <= mostData && x.Conf == 0
	fields = fields || x.Kind == api.EntryConf && len(x.Data) == 0 && set(x.Conf)
	return fields && number(x.Term) && number(x.Index)
}

// frames answers what the complete frames at the beginning of s hold.
func frames(s string) (some []string) {
	for len(s) >= 8 {
		n := int(binary.LittleEndian.Uint32([]byte(s)))
		if n > mostFrame || n > len(s)-8 {
			return some
		}
		part := s[8 : 8+n]
		if binary.LittleEndian.Uint32([]byte(s[4:])) != crc32.Checksum([]byte(part), crc32.MakeTable(crc32.Castagnoli)) {
			return some
		}
		some = append(some, part)
		s = s[8+n:]
	}
	return some
}

// cutNumber reads a number at the beginning of s, and answers what is behind it; where
// there is none, or not in its shortest form, the bytes that are laid anew will differ.
func cutNumber(s string) (uint64, string) {
	n, size := binary.Uvarint([]byte(s))
	return n, s[max(size, 0):]
}

// readSnap answers the snapshot that is told by a file of s; it is zero where there is none.
func readSnap(s string) api.Snap {
	some := frames(s)
	if len(some) != 1 || framed(some[0]) != s {
		return api.Snap{}
	}
	index, rest := cutNumber(some[0])
	term, rest := cutNumber(rest)
	if rest == "" {
		return api.Snap{}
	}
	_, data := cutNumber(rest[1:])
	p := snap(index, term, data)
	p.Base.Conf = int(rest[0])
	if !rightSnap(p) || laidSnap(p) != some[0] {
		return api.Snap{}
	}
	return p
}

// readHards answers the last term and vote that is told by a file of s, and where it ends.
func readHards(s string) (last api.Hard, end int) {
	for _, part := range frames(s) {
		term, rest := cutNumber(part)
		if len(rest) != 1 {
			break
		}
		h := votes(term, int(rest[0]))
		if !rightHard(h) || laidHard(h) != part {
			break
		}
		last = h
		end += len(framed(part))
	}
	return last, end
}

// readEntry answers the entry of which s are the bytes, and whether there is one.
func readEntry(s string) (api.Entry, bool) {
	if s == "" {
		return api.Entry{}, false
	}
	x := api.Entry{Kind: int(s[0])}
	x.Term, s = cutNumber(s[1:])
	x.Index, s = cutNumber(s)
	switch {
	case x.Kind == api.EntryCmd:
		_, s = cutNumber(s)
		x.Data = []byte(s)
	case x.Kind == api.EntryConf && s != "":
		x.Conf = int(s[0])
	}
	return x, rightEntry(x)
}

var known = regexp.MustCompile(`^s0[0-9a-f]{14}$`)

// readLog reads the log as chapter 9 tells it, and takes away what does not fit.
func (p *plan) readLog() (l parts) {
	var names []string
	for _, n := range slices.Sorted(maps.Keys(p.now)) {
		if known.MatchString(n) {
			names = append(names, n)
		}
	}
	for i, n := range names {
		some := fitting(l.entries(), n, p.now[n])
		if len(some) > 0 {
			l = append(l, some)
		}
		whole := segment(some...)
		if len(some) > 0 && whole == p.now[n] {
			continue
		}
		for _, later := range slices.Backward(names[i+1:]) {
			p.remove(later)
		}
		if len(some) == 0 {
			p.remove(n)
		} else {
			p.truncate(n, len(whole))
		}
		break
	}
	return l
}

// fitting answers those entries of the segment n, in which s lies, that fit behind all.
func fitting(all []api.Entry, n, s string) (some []api.Entry) {
	for i, part := range frames(s) {
		x, ok := readEntry(part)
		if !ok || laidEntry(x) != part || i == 0 && n != name(x.Index) {
			return some
		}
		if k := len(all); k > 0 && (x.Index != all[k-1].Index+1 || x.Term < all[k-1].Term) {
			return some
		}
		all, some = append(slices.Clone(all), x), append(some, x)
	}
	return some
}

// past is what was done to a disk since it was synced: what lay there then, and behind
// each operation.
type past struct {
	begin files
	done  []operation
}

// then answers p behind some operations more.
func (p past) then(some []operation) past {
	for _, o := range some {
		if p.done = append(slices.Clone(p.done), o); o.sync {
			p = past{begin: o.left}
		}
	}
	return p
}

// now answers what lies there.
func (p past) now() files { return p.after(len(p.done)) }

// after answers what lies there behind the first n operations.
func (p past) after(n int) files {
	if n == 0 {
		return p.begin
	}
	return p.done[n-1].left
}

// torn answers how many ways there are to cut off the operation behind the first n.
func (p past) torn(n int) int {
	if n == len(p.done) {
		return 1
	}
	return max(p.done[n].size, 1)
}

// crashed answers what a crash leaves that keeps n operations, and of the next one some
// bytes if it is one that appends.
func (p past) crashed(n, torn int) files {
	m := p.after(n)
	if n == len(p.done) || p.done[n].size == 0 || torn%p.done[n].size == 0 {
		return m
	}
	o := p.done[n]
	s := o.left[o.name]
	return m.with(o.name, s[:len(s)-o.size+torn%o.size])
}
