package hard_test

import (
	"testing"

	"bursar/api"
	"bursar/disk"
)

// TestApart: R8 and R4, what is saved on one disk is nothing to another, and is answered
// alike however often it is asked.
func TestApart(t *testing.T) {
	d, other := made(t, nil), made(t, nil)
	for i, h := range run(1, 60) {
		saves(t, "R8: one disk", d, h, api.OK)
		if i%2 == 0 {
			saves(t, "R8: the other", other, value(h.Term+500, 7-h.Vote), api.OK)
		}
		x := value(uint64(i-i%2+501), 7-(i-i%2+1)%8)
		for range 3 {
			opens(t, "R8: one disk", d, h)
			opens(t, "R8: the other", other, x)
		}
	}
	d.Fuse(0)
	saves(t, "R8: one disk is down", d, value(1, 1), api.ErrDown)
	saves(t, "R8: one disk is down, the other", other, value(1, 1), api.OK)
	fails(t, "R8: no disk", nil, api.ErrArg)
	opens(t, "R8: one disk is down, the other", other, value(1, 1))
}

// TestAlike: R4, two disks to which the same is done hold the same.
func TestAlike(t *testing.T) {
	var both [2]*disk.Disk
	for i := range both {
		d := made(t, files{"a": "1", "b": "2", fresh: "x"})
		savesAll(t, "R4: alike", d, run(1, 70))
		d.Crash(72, 4)
		opens(t, "R4: alike", d, value(66, 2))
		both[i] = d
	}
	m := files{"a": "1", "b": "2", old: file(run(53, 66)...)}
	lies(t, "R4: one", both[0], m)
	lies(t, "R4: the other", both[1], m)
}
