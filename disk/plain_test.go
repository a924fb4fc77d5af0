package disk_test

import (
	"maps"

	"bursar/api"
)

// plain is a Disk as the chapter tells it, by other means: it keeps each state that its
// files had since they were synced, whole.
type plain struct {
	room   int
	fuse   int
	set    bool // whether a fuse is set
	down   bool
	states []map[string]string // the synced one first, the one that is shown last
	done   []call              // what led from each state to the next one
}

// blank answers a new plain.
func blank(room int) *plain {
	return &plain{room: room, states: []map[string]string{{}}}
}

// now answers the files that are shown.
func (p *plain) now() map[string]string {
	if p.down {
		return map[string]string{}
	}
	return p.states[len(p.states)-1]
}

// burn sets a fuse.
func (p *plain) burn(n int) { p.fuse, p.set = n, n >= 0 }

// ask does c, or answers why not.
func (p *plain) ask(c call) api.Errno {
	if p.set && p.fuse == 0 {
		p.down = true
	}
	if p.down {
		return api.ErrDown
	}
	if p.set {
		p.fuse--
	}
	if e := p.fault(c); e != api.OK {
		return e
	}
	if c.is("Sync") {
		p.states, p.done = p.states[len(p.states)-1:], nil
		return api.OK
	}
	p.states = append(p.states, after(p.now(), c))
	p.done = append(p.done, c)
	return api.OK
}

// fault answers what is wrong with c while p is up.
func (p *plain) fault(c call) api.Errno {
	now := p.now()
	old, there := now[c.name]
	switch {
	case c.is("Append") && (c.name == "" || len(c.name) > mostName):
		return api.ErrArg
	case c.is("Append") && (bytesOf(now)+len(c.data) > p.room || !there && len(now) == mostFiles):
		return api.ErrFull
	case c.is("Rename") && (c.to == "" || len(c.to) > mostName):
		return api.ErrArg
	case c.is("Truncate", "Rename", "Remove") && !there:
		return api.ErrNone
	case c.is("Truncate") && (c.size < 0 || c.size > len(old)):
		return api.ErrArg
	}
	return api.OK
}

// after answers the files that c makes of others, which stay.
func after(files map[string]string, c call) map[string]string {
	m := maps.Clone(files)
	switch c.what {
	case "Append":
		m[c.name] = files[c.name] + c.data
	case "Truncate":
		m[c.name] = files[c.name][:c.size]
	case "Rename":
		delete(m, c.name)
		m[c.to] = files[c.name]
	case "Remove":
		delete(m, c.name)
	}
	return m
}

// upwards answers what is left of a by m, counted upwards from 0.
func upwards(a, m int) int { return (a%m + m) % m }

// left answers what a crash leaves, and how many operations whole.
func (p *plain) left(keep, torn int) (map[string]string, int) {
	k := upwards(keep, len(p.done)+1)
	m := p.states[k]
	if k == len(p.done) || p.done[k].data == "" {
		return m, k
	}
	c := p.done[k]
	c.data = c.data[:upwards(torn, len(c.data))]
	if c.data == "" {
		return m, k
	}
	return after(m, c), k
}

// crash crashes p.
func (p *plain) crash(keep, torn int) int {
	m, k := p.left(keep, torn)
	*p = plain{room: p.room, states: []map[string]string{m}}
	return k
}
