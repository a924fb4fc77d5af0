package rpc_test

import "bursar/api"

// scan reads bytes as chapter 1 tells it, up to the first fault, by which it panics.
type scan struct{ left []byte }

// one reads a byte of at most so much.
func (s *scan) one(most byte) byte {
	if len(s.left) == 0 {
		panic(api.ErrShort)
	}
	b := s.left[0]
	if b > most {
		panic(api.ErrLong)
	}
	s.left = s.left[1:]
	return b
}

// num reads a varint of at most so much.
func (s *scan) num(most uint64) uint64 {
	n, digit := uint64(0), uint64(1)
	for i, c := range s.left {
		if i == 9 && c > 1 {
			panic(api.ErrForm)
		}
		if c >= 128 {
			n += uint64(c-128) * digit
			digit *= 128
			continue
		}
		n += uint64(c) * digit
		if c == 0 && i > 0 {
			panic(api.ErrForm)
		}
		if n > most {
			panic(api.ErrLong)
		}
		s.left = s.left[i+1:]
		return n
	}
	panic(api.ErrShort)
}

// text reads a length of at most so much, and as many bytes.
func (s *scan) text(most uint64) []byte {
	n := s.num(most)
	if n > uint64(len(s.left)) {
		panic(api.ErrShort)
	}
	b := s.left[:n]
	s.left = s.left[n:]
	return b
}

// end asks that no bytes are left, and that what was read is right.
func (s *scan) end(right bool) {
	if len(s.left) > 0 || !right {
		panic(api.ErrForm)
	}
}

// caught answers the fault by which f panics.
func caught(f func()) (e api.Errno) {
	defer func() {
		if x := recover(); x != nil {
			e = x.(api.Errno)
		}
	}()
	f()
	return api.OK
}

// entry reads an entry from bytes that hold it alone.
func (s *scan) entry() (x api.Entry) {
	if len(s.left) > 160 {
		panic(api.ErrLong)
	}
	x.Kind = int(s.one(2))
	x.Term, x.Index = s.num(mostNumber), s.num(mostNumber)
	right := x.Term > 0 && x.Index > 0
	switch x.Kind {
	case 1:
		x.Data = s.text(128)
		right = right && len(x.Data) > 0
	case 2:
		x.Conf = int(s.one(254))
		right = right && x.Conf%2 == 0 && x.Conf != 0
	}
	s.end(right)
	return x
}

// message reads a message without its sum.
func (s *scan) message() (m api.Msg) {
	m.Kind = int(s.one(lastKind))
	right := m.Kind != 0
	if right {
		m.From, m.To = int(s.one(7)), int(s.one(7))
		right = m.From != 0 && m.To != 0 && m.From != m.To
	}
	for _, letter := range list[m.Kind] {
		right = s.field(&m, letter) && right
	}
	s.end(right)
	return m
}

// field reads the field of a letter, and tells whether it is right beside those that
// were read before.
func (s *scan) field(m *api.Msg, letter rune) bool {
	switch letter {
	case 'T':
		m.Term = s.num(mostNumber)
		return m.Term != 0
	case 'I':
		m.Index = s.num(mostNumber)
	case 'G':
		m.LogTerm = s.num(mostNumber)
	case 'C':
		m.Commit = s.num(mostNumber)
	case 'E':
		return s.entries(m)
	case 'R':
		m.Refused = s.one(1) == 1
	case 'B':
		m.Base.Index, m.Base.Term, m.Base.Conf = s.num(mostNumber), s.num(mostNumber), int(s.one(254))
		return m.Base.Index != 0 && m.Base.Term != 0 && m.Base.Conf != 0 && m.Base.Conf%2 == 0
	case 'O':
		m.Offset = int(s.num(mostImage))
	case 'L':
		m.Last = s.one(1) == 1
	case 'D':
		m.Data = s.text(256)
	}
	return true
}

// entries reads the entries of m, and tells whether they follow.
func (s *scan) entries(m *api.Msg) bool {
	right := true
	term := m.LogTerm
	n := s.num(4)
	for i := uint64(1); i <= n; i++ {
		inner := &scan{s.text(160)}
		e := inner.entry()
		right = right && e.Index == m.Index+i && e.Term >= term
		term = e.Term
		m.Entries = append(m.Entries, e)
	}
	return right && (n == 0 || term <= m.Term)
}

// scannedEntry answers what ReadEntry must.
func scannedEntry(b []byte) (x api.Entry, e api.Errno) {
	var got api.Entry
	e = caught(func() { got = (&scan{b}).entry() })
	if e == api.OK {
		x = got
	}
	return x, e
}

// scanned answers what Decode must of b with its right sum behind it.
func scanned(b []byte) (m api.Msg, e api.Errno) {
	var got api.Msg
	e = caught(func() { got = (&scan{b}).message() })
	if e == api.OK {
		m = got
	}
	return m, e
}
