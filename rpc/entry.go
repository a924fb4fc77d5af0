package rpc

import (
	"bursar/api"
	"bursar/pack"
)

const (
	entryBytes = api.MaxData + 32    // more than an entry has
	everyNode  = 2<<api.MaxNodes - 2 // the set of all nodes: there is no node 0
)

// RightEntry tells whether e may be: its kind's fields as they may be, the others zero.
func RightEntry(e api.Entry) bool {
	if !number(e.Term) || !number(e.Index) {
		return false
	}
	switch e.Kind {
	case api.EntryNone:
		return len(e.Data) == 0 && e.Conf == 0
	case api.EntryCmd:
		return len(e.Data) >= 1 && len(e.Data) <= api.MaxData && e.Conf == 0
	case api.EntryConf:
		return len(e.Data) == 0 && members(e.Conf)
	}
	return false
}

// number tells whether n may be a term, or the index of an entry.
func number(n uint64) bool { return n >= 1 && n <= api.MaxNumber }

// members tells whether set is a right set of nodes that is not empty.
func members(set int) bool { return set >= 1 && set <= everyNode && set%2 == 0 }

// LayEntry answers e as bytes.
func LayEntry(e api.Entry) ([]byte, api.Errno) {
	if !RightEntry(e) {
		return nil, api.ErrArg
	}
	w := pack.NewWriter()
	w.Byte(byte(e.Kind))
	w.Num(e.Term)
	w.Num(e.Index)
	switch e.Kind {
	case api.EntryCmd:
		w.Text(e.Data)
	case api.EntryConf:
		w.Byte(byte(e.Conf))
	}
	return w.Bytes(), api.OK
}

// ReadEntry answers the entry that LayEntry was given.
func ReadEntry(b []byte) (api.Entry, api.Errno) {
	if len(b) > entryBytes {
		return api.Entry{}, api.ErrLong
	}
	r := pack.NewReader(b)
	var x api.Entry
	x.Kind = int(r.Byte(api.EntryConf))
	x.Term = r.Num(api.MaxNumber)
	x.Index = r.Num(api.MaxNumber)
	switch x.Kind {
	case api.EntryCmd:
		x.Data = r.Text(api.MaxData)
	case api.EntryConf:
		x.Conf = int(r.Byte(everyNode))
	}
	if e := r.End(); e != api.OK {
		return api.Entry{}, e
	}
	// The reader's limits let pass what no entry has: a term or an index 0, no
	// data, and sets that are odd or empty.
	if !RightEntry(x) {
		return api.Entry{}, api.ErrForm
	}
	return x, api.OK
}
