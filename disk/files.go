package disk

import "bytes"

// kind tells what an operation does.
type kind int

const (
	appends kind = iota
	truncates
	renames
	removes
)

// operation is something that is done to a file; each kind has its fields.
type operation struct {
	what kind
	name string
	data []byte // of one that appends
	size int    // of one that truncates
	to   string // of one that renames
}

// files are bytes by names; no two share memory.
type files map[string][]byte

// has tells whether there is a file of that name, be it empty.
func (f files) has(name string) bool {
	_, ok := f[name]
	return ok
}

// do does o, about which all was asked when it came.
func (f files) do(o operation) {
	switch o.what {
	case appends:
		f[o.name] = append(f[o.name], o.data...)
	case truncates:
		f[o.name] = f[o.name][:o.size]
	case renames:
		b := f[o.name]
		// Both names may be the same, so the old one goes ahead of the new one's coming.
		delete(f, o.name)
		f[o.to] = b
	case removes:
		delete(f, o.name)
	}
}

// tear does what a crash in the midst of o leaves of it: some bytes, where it appends any.
func (f files) tear(o operation, torn int) {
	if len(o.data) == 0 {
		return
	}
	o.data = o.data[:modulo(torn, len(o.data))]
	// Done with no bytes, it would still make its file.
	if len(o.data) > 0 {
		f.do(o)
	}
}

// copied answers the same files in new memory.
func (f files) copied() files {
	c := make(files, len(f))
	for name, b := range f {
		c[name] = bytes.Clone(b)
	}
	return c
}
