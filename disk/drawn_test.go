package disk_test

import (
	"fmt"
	"math/rand/v2"
	"slices"
	"testing"

	"bursar/api"
	"bursar/disk"
)

// drawnName answers a name, mostly one of few, so that it is there again and again.
func drawnName(rnd *rand.Rand) string {
	switch rnd.IntN(20) {
	case 0:
		return ""
	case 1:
		return name(mostName)
	case 2:
		return name(mostName + 1)
	}
	return string(rune('a' + rnd.IntN(5)))
}

// drawn answers a call, right or wrong.
func drawn(rnd *rand.Rand) call {
	from, to := drawnName(rnd), drawnName(rnd)
	switch rnd.IntN(12) {
	case 0, 1:
		return cut(from, rnd.IntN(12)-1)
	case 2, 3:
		return move(from, to)
	case 4:
		return drop(from)
	case 5:
		return sync()
	}
	b := make([]byte, rnd.IntN(9))
	for i := range b {
		b[i] = byte('0' + rnd.IntN(10))
	}
	return add(from, string(b))
}

// alike fails where d and p are not alike.
func alike(t *testing.T, what string, d *disk.Disk, p *plain) {
	t.Helper()
	holds(t, what, d, p.now())
	stands(t, what, d, len(p.done), p.down)
}

// TestDrawn: 7.1 to 7.5, many calls, fuses, rooms and crashes, held against plain.
func TestDrawn(t *testing.T) {
	for seed := range uint64(60) {
		rnd := rand.New(rand.NewPCG(7, seed))
		d, p := made(t, 50), blank(50)
		for i := range 300 {
			what := fmt.Sprintf("drawn: seed %d, step %d", seed, i)
			keep, torn, n := rnd.IntN(99)-49, rnd.IntN(99)-49, rnd.IntN(60)
			switch rnd.IntN(40) {
			case 0:
				if got, want := d.Crash(keep, torn), p.crash(keep, torn); got != want {
					t.Errorf("%s: Crash(%d, %d): %d, not %d", what, keep, torn, got, want)
				}
			case 1:
				d.Fuse(n - 5)
				p.burn(n - 5)
			case 2:
				if e := d.Room(n); e != api.OK {
					t.Errorf("%s: Room(%d): %d", what, n, e)
				}
				p.room = n
			default:
				c := drawn(rnd)
				asks(t, what, d, c, p.ask(c))
			}
			alike(t, what, d, p)
			if t.Failed() {
				return
			}
		}
	}
}

// TestDrawnCrashes: 7.4 and 7.5, each crash that may come after some drawn calls.
func TestDrawnCrashes(t *testing.T) {
	for seed := range uint64(40) {
		rnd := rand.New(rand.NewPCG(77, seed))
		var some []call
		for range 25 {
			some = append(some, drawn(rnd))
		}
		begin := func() (*disk.Disk, *plain) {
			d, p := made(t, 60), blank(60)
			for _, c := range some {
				asks(t, "drawn", d, c, p.ask(c))
			}
			return d, p
		}
		_, p := begin()
		for keep := range len(p.done) + 1 {
			for torn := range 9 {
				d, p := begin()
				m, k := p.left(keep, torn)
				crashes(t, fmt.Sprintf("drawn: seed %d, Crash(%d, %d)", seed, keep, torn), d, keep, torn, k, m)
			}
		}
		if t.Failed() {
			return
		}
	}
}

// TestSame: R4, the same calls of many Disks have the same results, also where many
// files are in their maps.
func TestSame(t *testing.T) {
	run := func() (told []string) {
		d, _ := many(t, mostFiles)
		rnd := rand.New(rand.NewPCG(7, 7))
		for i := range 200 {
			c := drawn(rnd)
			e := c.on(d)
			if i%20 == 19 {
				d.Crash(i%7, i%5)
			}
			told = append(told, fmt.Sprint(e, d.Names(), d.Used(), d.Pending(), shown(d)))
		}
		return told
	}
	first := run()
	for range 10 {
		if !slices.Equal(run(), first) {
			t.Fatal("R4: the same calls, other results")
		}
	}
}
