package cmd_test

import (
	"bytes"
	"testing"

	"bursar/api"
	"bursar/cmd"
)

// TestBytes: 5.2, the bytes of each kind, written out.
func TestBytes(t *testing.T) {
	for b, c := range map[string]api.Cmd{
		"\x01\x05":                         {Kind: api.Register, Session: 5},
		"\x01\x7f":                         {Kind: api.Register, Session: 127},
		"\x01\x80\x01":                     {Kind: api.Register, Session: 128},
		"\x02\x05\x06\x12JPY":              {Kind: api.Coin, Session: 5, Seq: 6, A: 18, X: "JPY"},
		"\x03\x05\xac\x02EUR":              {Kind: api.Open, Session: 5, Seq: 300, X: "EUR"},
		"\x04\x05\x06\x03\x02\x00\xac\x02": {Kind: api.Deposit, Session: 5, Seq: 6, A: 3, Amount: amount(300, 2)},
		"\x05\x05\x06\x00\x12\x01\xff\xff\xff\xff\xff\xff\xff\xff\xff\x01": {Kind: api.Withdraw, Session: 5, Seq: 6, Amount: amount(-1, 18)},
		"\x06\x05\x06\x03\x04\x00\x00\x00":                                 {Kind: api.Transfer, Session: 5, Seq: 6, A: 3, B: 4},
		"\x07\x05\x06\x01\x00\xcf\x0cEURJPY":                               {Kind: api.Rate, Session: 5, Seq: 6, Amount: amount(1615, 1), X: "EUR", Y: "JPY"},
		"\x08\x05\x06\x80\x01\x81\x01\x01\x02\x07":                         {Kind: api.Convert, Session: 5, Seq: 6, A: 128, B: 129, Amount: api.Dec{C: api.Wide{Hi: 1, Lo: 7}, Scale: 1}},
		"\x09\x05\x06\xff\xff\xff\xff\xff\xff\xff\xff\xff\x01":             {Kind: api.Balance, Session: 5, Seq: 6, A: 1<<64 - 1},
		"\x0a\xff\xff\xff\xff\xff\xff\xff\x7f\x06AZM":                      {Kind: api.Outside, Session: api.MaxNumber, Seq: 6, X: "AZM"},
		"\x0b\x05\xff\xff\xff\xff\xff\xff\xff\x7fZZZAAA":                   {Kind: api.Between, Session: 5, Seq: api.MaxNumber, X: "ZZZ", Y: "AAA"},
	} {
		if got, e := cmd.Encode(c); string(got) != b || e != api.OK {
			t.Errorf("5.2: Encode of %+v: % x %d, not % x", c, got, e, b)
		}
		decodes(t, "5.2", []byte(b), c, api.OK)
	}
}

// TestEncode: 5.2 and 5.4, each kind with each edge of its fields as the table
// tells its bytes, and back; the bytes are not too many for an entry.
func TestEncode(t *testing.T) {
	longest := 0
	right(func(c api.Cmd) {
		b, e := cmd.Encode(c)
		if !bytes.Equal(b, encoded(c)) || e != api.OK {
			t.Errorf("5.2: Encode of %+v: % x %d, not % x", c, b, e, encoded(c))
		}
		decodes(t, "5.4", b, c, api.OK)
		longest = max(longest, len(b))
	})
	all := api.Cmd{Session: api.MaxNumber, Seq: api.MaxNumber, A: 1<<64 - 1, B: 1<<64 - 1, Amount: api.Dec{C: most, Scale: 18}, X: "ZZZ", Y: "ZZZ"}
	for kind := range list {
		b, e := cmd.Encode(ofKind(kind, all))
		if e != api.OK || len(b) > api.MaxData {
			t.Errorf("5.4: the longest of kind %d: % x %d", kind, b, e)
		}
		longest = max(longest, len(b))
	}
	// A Transfer has the most: its kind, twice 8 bytes, twice 10, and 21 of an amount.
	if longest != 1+8+8+10+10+1+10+10 {
		t.Errorf("5.4: the longest has %d bytes", longest)
	}
}
