package rpc_test

import (
	"bytes"
	"testing"

	"bursar/api"
	"bursar/rpc"
)

// roomy answers b, and all the memory that it lies in: b with room behind it, marked.
func roomy(b []byte) (given, whole []byte) {
	whole = append(bytes.Clone(b), bytes.Repeat([]byte{0xcc}, 16)...)
	return whole[:len(b)], whole
}

// scrawl writes over b and over the room behind it.
func scrawl(b []byte) {
	b = b[:cap(b)]
	for i := range b {
		b[i] = 0xee
	}
}

// scrawlMsg writes over all the memory that m lies in.
func scrawlMsg(m api.Msg) {
	scrawl(m.Data)
	for _, e := range m.Entries {
		scrawl(e.Data)
	}
	row := m.Entries[:cap(m.Entries)]
	for i := range row {
		row[i] = api.Entry{Kind: -1, Data: []byte("no")}
	}
}

// TestBytesStay: R2, bytes that are read are not changed, nor the room behind them,
// and not kept: what was read stays as it is when they are written over.
func TestBytesStay(t *testing.T) {
	for kind := range list {
		for _, turn := range []byte{0, 1} {
			s := encoded(full(kind))
			s[len(s)-1] ^= turn
			b, whole := roomy(s)
			before := bytes.Clone(whole)
			m, e := rpc.Decode(b)
			if !bytes.Equal(whole, before) || (e == api.OK) != (turn == 0) {
				t.Errorf("R2: Decode, kind %d: % x, before % x, %d", kind, whole, before, e)
			}
			scrawl(b)
			if turn == 0 && !same(m, full(kind)) {
				t.Errorf("R2: Decode keeps its argument: %+v", m)
			}
		}
	}
	for _, x := range []api.Entry{none(2, 3), command(2, 3, "ab"), conf(2, 3, 14)} {
		b, whole := roomy(ofEntry(x))
		before := bytes.Clone(whole)
		got, e := rpc.ReadEntry(b)
		scrawl(got.Data)
		if !bytes.Equal(whole, before) || e != api.OK {
			t.Errorf("R2: ReadEntry: % x, before % x, %d", whole, before, e)
		}
		got, _ = rpc.ReadEntry(b)
		scrawl(b)
		if !sameEntry(got, x) {
			t.Errorf("R2: ReadEntry keeps its argument: %+v", got)
		}
		rpc.ReadEntry(b)
		if !bytes.Equal(b, bytes.Repeat([]byte{0xee}, len(b))) {
			t.Errorf("R2: ReadEntry of refused bytes: % x", b)
		}
	}
}

// TestMessagesStay: R2, a message and an entry that are laid are not changed, nor the
// room behind their lists, right or not.
func TestMessagesStay(t *testing.T) {
	for kind := range list {
		for _, from := range []int{1, 9} {
			m := every()
			m.Kind, m.From = kind, from
			data, whole := roomy(m.Data)
			inner, wholeInner := roomy(m.Entries[1].Data)
			row := append(m.Entries, none(9, 9), none(9, 10))
			m.Entries = row[:4]
			m.Entries[1].Data = inner
			m.Data = data
			m = ofKind(kind, m)
			rpc.Right(m)
			if b, e := rpc.Encode(m); e == api.OK {
				scrawl(b)
			}
			if !bytes.Equal(whole, []byte("xyz"+string(bytes.Repeat([]byte{0xcc}, 16)))) || !bytes.Equal(wholeInner, []byte("ab"+string(bytes.Repeat([]byte{0xcc}, 16)))) {
				t.Errorf("R2: Encode, kind %d: % x, % x", kind, whole, wholeInner)
			}
			want := append(every().Entries, none(9, 9), none(9, 10))
			for i := range want {
				if !sameEntry(row[i], want[i]) {
					t.Errorf("R2: Encode, kind %d, entry %d: %+v", kind, i, row[i])
				}
			}
		}
	}
	x := command(2, 3, "ab")
	var whole []byte
	x.Data, whole = roomy(x.Data)
	b, _ := rpc.LayEntry(x)
	scrawl(b)
	rpc.RightEntry(x)
	if !bytes.Equal(whole, []byte("ab"+string(bytes.Repeat([]byte{0xcc}, 16)))) {
		t.Errorf("R2: LayEntry: % x", whole)
	}
}

// TestLaidIsNew: R2 and R4, what is laid once may be written over, and is laid the
// same way again; what was laid stays when the message is written over.
func TestLaidIsNew(t *testing.T) {
	for kind := range list {
		m := full(kind)
		one, _ := rpc.Encode(m)
		two, _ := rpc.Encode(m)
		scrawl(one)
		if !bytes.Equal(two, encoded(m)) {
			t.Errorf("R2: Encode, kind %d: % x", kind, two)
		}
		three, e := rpc.Encode(m)
		scrawlMsg(m)
		if !bytes.Equal(three, two) || e != api.OK {
			t.Errorf("R4: Encode, kind %d: % x %d", kind, three, e)
		}
	}
	x := command(2, 3, "ab")
	one, _ := rpc.LayEntry(x)
	two, _ := rpc.LayEntry(x)
	scrawl(one)
	scrawl(x.Data)
	if !bytes.Equal(two, []byte("\x01\x02\x03\x02ab")) {
		t.Errorf("R2: LayEntry: % x", two)
	}
}

// TestReadIsNew: R2, what is read is new memory: of two answers, and of the lists of
// one answer, none shares any with another, nor the room behind it.
func TestReadIsNew(t *testing.T) {
	m := full(api.MsgAppend)
	for i := range m.Entries {
		m.Entries[i] = command(5, m.Index+uint64(i)+1, string(rising(i+1)))
	}
	for _, m := range []api.Msg{m, full(api.MsgAppend), full(api.MsgSnap)} {
		b := encoded(m)
		one, _ := rpc.Decode(b)
		two, _ := rpc.Decode(b)
		scrawlMsg(one)
		decodes(t, "R4", b, m, api.OK)
		if !same(two, m) {
			t.Errorf("R2: Decode, the other answer: %+v", two)
		}
		for i := range two.Entries {
			scrawl(two.Entries[i].Data)
			for k := range two.Entries {
				if k > i && !sameEntry(two.Entries[k], m.Entries[k]) {
					t.Errorf("R2: Decode, entries %d and %d share memory", i, k)
				}
			}
		}
	}
	b := ofEntry(command(2, 3, "ab"))
	one, _ := rpc.ReadEntry(b)
	two, _ := rpc.ReadEntry(b)
	scrawl(one.Data)
	if !sameEntry(two, command(2, 3, "ab")) {
		t.Errorf("R2: ReadEntry, the other answer: %+v", two)
	}
}
