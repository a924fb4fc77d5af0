package cmd

import (
	"math"

	"bursar/api"
	"bursar/dec"
	"bursar/pack"
)

const mostCode = 99 // that a reply may have

// LayReply answers r as bytes.
func LayReply(r api.Reply) ([]byte, api.Errno) {
	if r.Code < 0 || r.Code > mostCode || !dec.Right(r.Amount) {
		return nil, api.ErrArg
	}
	w := pack.NewWriter()
	w.Byte(byte(r.Code))
	w.Num(r.Value)
	layAmount(w, r.Amount)
	return w.Bytes(), api.OK
}

// ReadReply answers the reply that LayReply was given.
func ReadReply(b []byte) (api.Reply, api.Errno) {
	r := pack.NewReader(b)
	var x api.Reply
	x.Code = api.Errno(r.Byte(mostCode))
	x.Value = r.Num(math.MaxUint64)
	x.Amount = readAmount(r)
	if e := r.End(); e != api.OK {
		return api.Reply{}, e
	}
	return x, api.OK
}
