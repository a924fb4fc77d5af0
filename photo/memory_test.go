package photo_test

import (
	"bytes"
	"testing"

	"bursar/api"
	"bursar/disk"
	"bursar/photo"
)

// scrawl writes over b and over the room behind it.
func scrawl(b []byte) {
	b = b[:cap(b)]
	for i := range b {
		b[i] = 0xee
	}
}

// roomy answers a snapshot with room behind its Data, which is marked.
func roomy(data string) api.Snap {
	s := snap(4, 2, 14, "")
	s.Data = append([]byte(data), bytes.Repeat([]byte{0xcc}, 40)...)[:len(data)]
	return s
}

// TestDataStays: R2, Data that is handed in is not changed, nor the room behind it, by a
// Save that is OK or by one that is not.
func TestDataStays(t *testing.T) {
	for _, data := range []string{"", "ab", filled(300), filled(mostData)} {
		s := roomy(data)
		before := bytes.Clone(s.Data[:cap(s.Data)])
		d := made(t, nil)
		saves(t, "R2: Data stays", d, s, api.OK)
		opens(t, "R2: Data stays", d, s)
		photo.Right(s)
		saves(t, "R2: Data stays, no disk", nil, s, api.ErrArg)
		wrong := s
		wrong.Base.Conf = 15
		saves(t, "R2: Data stays, wrong", d, wrong, api.ErrArg)
		d.Room(0)
		saves(t, "R2: Data stays, full", d, s, api.ErrFull)
		d.Fuse(0)
		saves(t, "R2: Data stays, down", d, s, api.ErrDown)
		d.Crash(0, 0)
		if got := s.Data[:cap(s.Data)]; !bytes.Equal(got, before) {
			t.Errorf("R2: Data of %d bytes is changed: %s", len(data), short(got))
		}
	}
}

// TestDataIsNotKept: R2, Data that was handed in may be written over, whether it is
// synced or pending.
func TestDataIsNotKept(t *testing.T) {
	for _, data := range []string{"a", "ab", filled(300)} {
		s, want := roomy(data), snap(4, 2, 14, data)
		d := made(t, nil)
		saves(t, "R2: Data is written over", d, s, api.OK)
		scrawl(s.Data)
		opens(t, "R2: Data is written over", d, want)
		lies(t, "R2: Data is written over", d, files{old: file(want)})
		d.Crash(2, 0)
		opens(t, "R2: Data is written over, a crash", d, want)
		scrawl(s.Data)
		opens(t, "R2: Data is written over again", d, want)
	}
}

// TestAnswersAreNew: R2, Data that is told shares no memory with the disk or with other
// answers; nor does the room behind it.
func TestAnswersAreNew(t *testing.T) {
	for _, data := range []string{"", "a", "ab", filled(300), filled(mostData)} {
		want := snap(4, 2, 14, data)
		d := synced(t, files{old: file(want)})
		one, _, _ := photo.Open(d)
		other, _, _ := photo.Open(d)
		scrawl(one.Data)
		if !same(other, want) {
			t.Errorf("R2: another answer: %s", short(other))
		}
		opens(t, "R2: an answer was written over", d, want)
		lies(t, "R2: an answer was written over", d, files{old: file(want)})
		if one = roomed(other, 'x'); len(one.Data) != len(data)+1 {
			t.Errorf("R2: an answer grows to %d bytes", len(one.Data))
		}
		opens(t, "R2: an answer grew", d, want)
		d.Crash(0, 0)
		opens(t, "R2: an answer grew, a crash", d, want)
	}
}

// roomed answers s with one byte more, which lies in the room behind it if there is any.
func roomed(s api.Snap, b byte) api.Snap {
	s.Data = append(s.Data, b)
	return s
}

// TestAnswersStay: R2, what was told stays as it is, whatever comes of the disk.
func TestAnswersStay(t *testing.T) {
	want := snap(4, 2, 14, filled(300))
	d := synced(t, files{old: file(want)})
	told, _, _ := photo.Open(d)
	for _, do := range []func(){
		func() { saves(t, "R2: what was told", d, snap(9, 3, 6, "y"+filled(299)), api.OK) },
		func() { d.Append(old, []byte("zz")) },
		func() { d.Truncate(old, 3) },
		func() { d.Remove(old) },
		func() { d.Crash(1, 7) },
		func() { d.Fuse(0); d.Sync() },
	} {
		if do(); !same(told, want) {
			t.Errorf("R2: what was told is now %s", short(told))
		}
	}
}

// TestApart: R8 and R4, what is saved on one disk is nothing to another, and is answered
// alike however often it is asked.
func TestApart(t *testing.T) {
	d, other := made(t, nil), made(t, nil)
	for i, s := range run(1, 60) {
		x := snap(uint64(i-i%2+501), 9, 6, "other")
		saves(t, "R8: one disk", d, s, api.OK)
		if i%2 == 0 {
			saves(t, "R8: the other", other, x, api.OK)
		}
		for range 3 {
			opens(t, "R8: one disk", d, s)
			opens(t, "R8: the other", other, x)
		}
	}
	d.Fuse(0)
	saves(t, "R8: one disk is down", d, snap(1, 1, 2, ""), api.ErrDown)
	saves(t, "R8: one disk is down, the other", other, snap(1, 1, 2, ""), api.OK)
	fails(t, "R8: no disk", nil, api.ErrArg)
	opens(t, "R8: one disk is down, the other", other, snap(1, 1, 2, ""))
}

// TestAlike: R4, two disks to which the same is done hold the same.
func TestAlike(t *testing.T) {
	var both [2]*disk.Disk
	for i := range both {
		d := made(t, files{"a": "1", "b": "2", fresh: "x"})
		savesAll(t, "R4: alike", d, run(1, 20))
		d.Crash(35, 9)
		opens(t, "R4: alike", d, run(15, 15)[0])
		both[i] = d
	}
	m := files{"a": "1", "b": "2", old: file(run(15, 15)[0])}
	lies(t, "R4: one", both[0], m)
	lies(t, "R4: the other", both[1], m)
}
