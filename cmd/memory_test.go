package cmd_test

import (
	"bytes"
	"testing"

	"bursar/api"
	"bursar/cmd"
)

// roomy answers b, and all the memory that it lies in: b with room behind it, marked.
func roomy(b []byte) (given, whole []byte) {
	whole = append(bytes.Clone(b), bytes.Repeat([]byte{0xcc}, 16)...)
	return whole[:len(b)], whole
}

// scrawl writes over b and over the room behind it.
func scrawl(b []byte) {
	b = b[:cap(b)]
	for i := range b {
		b[i] = 0xee
	}
}

// TestArgumentsStay: R2, bytes that are read are not changed, nor the room behind
// them, and not kept: what was read stays as it is when they are written over.
func TestArgumentsStay(t *testing.T) {
	for kind := range list {
		b, whole := roomy(encoded(full(kind)))
		before := bytes.Clone(whole)
		c, e := cmd.Decode(b)
		if !bytes.Equal(whole, before) || e != api.OK {
			t.Errorf("R2: Decode, kind %d: % x, before % x, %d", kind, whole, before, e)
		}
		scrawl(b)
		if c != full(kind) {
			t.Errorf("R2: Decode keeps its argument: %+v", c)
		}
	}
	r := api.Reply{Code: 42, Value: 300, Amount: amount(-3, 2)}
	b, whole := roomy(ofReply(r))
	before := bytes.Clone(whole)
	got, e := cmd.ReadReply(b)
	if !bytes.Equal(whole, before) || got != r || e != api.OK {
		t.Errorf("R2: ReadReply: % x, before % x, %+v %d", whole, before, got, e)
	}
	// Bytes that are refused stay as well.
	b, whole = roomy([]byte("\x03\x05\x06EUr"))
	before = bytes.Clone(whole)
	cmd.Decode(b)
	cmd.ReadReply(b)
	if !bytes.Equal(whole, before) {
		t.Errorf("R2: refused bytes: % x, before % x", whole, before)
	}
}

// TestResultsAreNew: R2, what is answered once may be written over, and is answered
// the same way again.
func TestResultsAreNew(t *testing.T) {
	for kind := range list {
		one, _ := cmd.Encode(full(kind))
		two, _ := cmd.Encode(full(kind))
		scrawl(one)
		if !bytes.Equal(two, encoded(full(kind))) {
			t.Errorf("R2: Encode, kind %d: % x", kind, two)
		}
		three, e := cmd.Encode(full(kind))
		if !bytes.Equal(three, two) || e != api.OK {
			t.Errorf("R4: Encode, kind %d: % x %d", kind, three, e)
		}
	}
	one, _ := cmd.LayReply(api.Reply{Code: 5})
	two, _ := cmd.LayReply(api.Reply{Code: 5})
	scrawl(one)
	if !bytes.Equal(two, []byte{5, 0, 0, 0, 0}) {
		t.Errorf("R2: LayReply: % x", two)
	}
}
