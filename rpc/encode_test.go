package rpc_test

import (
	"bytes"
	"testing"

	"bursar/api"
	"bursar/rpc"
)

// TestBytes: 6.3, the bytes of each kind, written out, without their sum.
func TestBytes(t *testing.T) {
	const great = "\xff\xff\xff\xff\xff\xff\xff\x7f"
	base := api.Base{Index: 9, Term: 300, Conf: 254}
	for b, m := range map[string]api.Msg{
		"\x01\x01\x02\x05\x00\x00\x00":                                             {Kind: api.MsgVote, From: 1, To: 2, Term: 5},
		"\x01\x01\x02\x05\xac\x02\x04\x01":                                         {Kind: api.MsgVote, From: 1, To: 2, Term: 5, Index: 300, LogTerm: 4, Last: true},
		"\x01\x07\x06" + great + great + great + "\x00":                            {Kind: api.MsgVote, From: 7, To: 6, Term: mostNumber, Index: mostNumber, LogTerm: mostNumber},
		"\x02\x01\x02\x05\x01\x00":                                                 {Kind: api.MsgVoteReply, From: 1, To: 2, Term: 5, Refused: true},
		"\x02\x01\x02\x05\x00\x01":                                                 {Kind: api.MsgVoteReply, From: 1, To: 2, Term: 5, Last: true},
		"\x03\x01\x02\x05\x07\x04\x06\x00":                                         {Kind: api.MsgAppend, From: 1, To: 2, Term: 5, Index: 7, LogTerm: 4, Commit: 6},
		"\x03\x01\x02\x05\x07\x04\x06\x01\x04\x02\x05\x08\x0e":                     {Kind: api.MsgAppend, From: 1, To: 2, Term: 5, Index: 7, LogTerm: 4, Commit: 6, Entries: []api.Entry{conf(5, 8, 14)}},
		"\x03\x01\x02\x05\x07\x04\x06\x02\x03\x00\x04\x08\x05\x01\x05\x09\x01\x61": {Kind: api.MsgAppend, From: 1, To: 2, Term: 5, Index: 7, LogTerm: 4, Commit: 6, Entries: []api.Entry{none(4, 8), command(5, 9, "a")}},
		"\x04\x01\x07\x05\x80\x01\x00":                                             {Kind: api.MsgAppendReply, From: 1, To: 7, Term: 5, Index: 128},
		"\x04\x01\x07\x05\x00\x01":                                                 {Kind: api.MsgAppendReply, From: 1, To: 7, Term: 5, Refused: true},
		"\x05\x01\x02\x05\x09\xac\x02\xfe\x80\x02\x01\x02xy":                       {Kind: api.MsgSnap, From: 1, To: 2, Term: 5, Base: base, Offset: 256, Last: true, Data: []byte("xy")},
		"\x05\x01\x02\x05\x09\xac\x02\xfe\x00\x00\x00":                             {Kind: api.MsgSnap, From: 1, To: 2, Term: 5, Base: base},
		"\x05\x01\x02\x05\x09\xac\x02\xfe\x00\x00\x80\x02" + letters(256):          {Kind: api.MsgSnap, From: 1, To: 2, Term: 5, Base: base, Data: []byte(letters(256))},
		"\x06\x02\x01\x05\x09\xac\x02\xfe\x80\x80\x02":                             {Kind: api.MsgSnapReply, From: 2, To: 1, Term: 5, Base: base, Offset: mostImage},
	} {
		if got, e := rpc.Encode(m); string(got) != string(sealed([]byte(b))) || e != api.OK {
			t.Errorf("6.3: Encode of %+v: % x %d, not % x", m, got, e, sealed([]byte(b)))
		}
		decodes(t, "6.3", sealed([]byte(b)), m, api.OK)
	}
}

// TestSum: 6.3, the bytes of a message with its sum, written out.
func TestSum(t *testing.T) {
	m := api.Msg{Kind: api.MsgVoteReply, From: 1, To: 2, Term: 5, Refused: true}
	const b = "\x02\x01\x02\x05\x01\x00\x77\x3e\xed\x23"
	if got, e := rpc.Encode(m); string(got) != b || e != api.OK {
		t.Errorf("6.3: Encode of %+v: % x %d", m, got, e)
	}
	decodes(t, "6.3", []byte(b), m, api.OK)
}

// TestEncode: 6.3 and 6.4, each kind with each edge of its fields as the table tells
// its bytes, and back.
func TestEncode(t *testing.T) {
	right(func(m api.Msg) {
		b, e := rpc.Encode(m)
		if !bytes.Equal(b, encoded(m)) || e != api.OK || len(b) > 1024 {
			t.Errorf("6.3: Encode of %+v: % x %d, not % x", m, b, e, encoded(m))
		}
		decodes(t, "6.4", b, m, api.OK)
	})
}

// TestLongest: 6.4, the longest message of each kind is not too long for a datagram.
func TestLongest(t *testing.T) {
	all := every()
	all.Term, all.Index, all.LogTerm, all.Commit = mostNumber, mostNumber-4, mostNumber, mostNumber
	all.Base = api.Base{Index: mostNumber, Term: mostNumber, Conf: 254}
	all.Offset, all.Data, all.Entries = mostImage, rising(256), nil
	for i := range uint64(4) {
		all.Entries = append(all.Entries, command(mostNumber, mostNumber-3+i, letters(128)))
	}
	for kind, want := range map[int]int{
		api.MsgVote:        3 + 8 + 8 + 8 + 1 + 4,
		api.MsgVoteReply:   3 + 8 + 1 + 1 + 4,
		api.MsgAppend:      3 + 8 + 8 + 8 + 8 + 1 + 4*(2+1+8+8+2+128) + 4,
		api.MsgAppendReply: 3 + 8 + 8 + 1 + 4,
		api.MsgSnap:        3 + 8 + 8 + 8 + 1 + 3 + 1 + 2 + 256 + 4,
		api.MsgSnapReply:   3 + 8 + 8 + 8 + 1 + 3 + 4,
	} {
		m := ofKind(kind, all)
		b, e := rpc.Encode(m)
		if e != api.OK || len(b) != want || len(b) > api.MaxDatagram {
			t.Errorf("6.4: the longest of kind %d: %d bytes, not %d, %d", kind, len(b), want, e)
		}
		decodes(t, "6.4: the longest", b, m, api.OK)
	}
}
