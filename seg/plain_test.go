package seg_test

import (
	"maps"
	"regexp"
	"slices"

	"bursar/api"
	"bursar/frame"
	"bursar/rpc"
)

// parts is a log as the chapter tells it, by other means: the entries of its segments.
type parts [][]api.Entry

// entries answers the entries of all segments.
func (p parts) entries() []api.Entry { return slices.Concat(p...) }

// files answers what lies on the disk.
func (p parts) files() map[string]string {
	m := map[string]string{}
	for _, some := range p {
		m[name(some[0].Index)] = file(some...)
	}
	return m
}

// bytes answers how many bytes all files have.
func (p parts) bytes() (n int) {
	for _, s := range p.files() {
		n += len(s)
	}
	return n
}

// with answers the segments of p but the last n, and some others behind them.
func (p parts) with(n int, others ...[]api.Entry) parts {
	return append(slices.Clone(p[:len(p)-n]), others...)
}

// steps answers how the log lies after each operation of the disk that c asks for, where
// no one fails.
func (c call) steps(p parts, limit int) []parts {
	switch c.what {
	case "Append":
		return appended(p, limit, c.entries)
	case "Cut":
		return removed(p, c.index)
	case "Drop":
		return dropped(p, c.index)
	}
	return removed(p, 0)
}

// appended answers the steps of an Append.
func appended(p parts, limit int, some []api.Entry) (steps []parts) {
	size := 0 // of the last segment
	if len(p) > 0 {
		size = len(file(p[len(p)-1]...))
	}
	for _, x := range some {
		n := len(file(x))
		if size += n; len(p) == 0 || size > limit {
			p, size = p.with(0, row(x)), n
		} else {
			p = p.with(1, append(slices.Clone(p[len(p)-1]), x))
		}
		steps = append(steps, p)
	}
	return steps
}

// removed answers the steps of a Cut.
func removed(p parts, index uint64) (steps []parts) {
	for n := len(p); n > 0 && p[n-1][0].Index >= index; n-- {
		p = p[:n-1]
		steps = append(steps, p)
	}
	if len(p) == 0 {
		return steps
	}
	tail := p[len(p)-1]
	for i, x := range tail {
		if x.Index == index {
			steps = append(steps, p.with(1, tail[:i]))
		}
	}
	return steps
}

// dropped answers the steps of a Drop.
func dropped(p parts, index uint64) (steps []parts) {
	for len(p) > 1 && slices.IndexFunc(p[0], func(x api.Entry) bool { return x.Index > index }) < 0 {
		p = p[1:]
		steps = append(steps, p)
	}
	return steps
}

// fault answers what is wrong with c while the disk does all.
func (c call) fault(p parts) api.Errno {
	all := append(p.entries(), c.entries...)
	for i := len(all) - len(c.entries); i < len(all); i++ {
		if !rpc.RightEntry(all[i]) || i > 0 && (all[i].Index != all[i-1].Index+1 || all[i].Term < all[i-1].Term) {
			return api.ErrArg
		}
	}
	return api.OK
}

// lasting answers what of m is left by the operation that leads to next and is cut off
// by a crash behind its first bytes, and how many bytes that operation appends.
func lasting(m, next map[string]string, torn int) (map[string]string, int) {
	for name, s := range next {
		if len(s) > len(m[name]) {
			n := len(s) - len(m[name])
			m = maps.Clone(m)
			if torn%n > 0 {
				m[name] = s[:len(m[name])+torn%n]
			}
			return m, n
		}
	}
	return m, 0
}

var known = regexp.MustCompile(`^s0[0-9a-f]{14}$`)

// read reads 9.2 anew: which entries a log that is opened has of files, and what it leaves.
func read(m map[string]string) ([]api.Entry, map[string]string) {
	var all []api.Entry
	m = maps.Clone(m)
	ended := false
	for _, n := range slices.Sorted(maps.Keys(m)) {
		if !known.MatchString(n) {
			continue
		}
		if ended {
			delete(m, n)
			continue
		}
		some := fitting(all, n, m[n])
		all = append(all, some...)
		ended = len(some) == 0 || file(some...) != m[n]
		if m[n] = file(some...); len(some) == 0 {
			delete(m, n)
		}
	}
	return all, m
}

// fitting answers those entries of the segment n, in which s lies, that fit behind all.
func fitting(all []api.Entry, n, s string) (some []api.Entry) {
	contents, _ := frame.List([]byte(s))
	for i, b := range contents {
		x, e := rpc.ReadEntry(b)
		if e != api.OK || i == 0 && n != name(x.Index) {
			return some
		}
		if add(x).fault(parts{all, some}) != api.OK {
			return some
		}
		some = append(some, x)
	}
	return some
}
