package core_test

import (
	"bytes"
	"math/rand/v2"
	"slices"
	"testing"

	"bursar/api"
	"bursar/core"
)

// scrawl writes over b and over the room behind it.
func scrawl(b []byte) {
	b = b[:cap(b)]
	for i := range b {
		b[i] = 0xee
	}
}

// scrawlAll writes over entries, over what they hold, and over the room behind them.
func scrawlAll(some []api.Entry) {
	some = some[:cap(some)]
	for i := range some {
		scrawl(some[i].Data)
		some[i] = api.Entry{Kind: 9, Term: 9, Index: 9, Data: []byte("?"), Conf: 9}
	}
}

// scrawlOut writes over all that a Take told.
func scrawlOut(o core.Out) {
	scrawl(o.Snap.Data)
	scrawlAll(o.Entries)
	some := o.Msgs[:cap(o.Msgs)]
	for i := range some {
		scrawlAll(some[i].Entries)
		scrawl(some[i].Data)
		some[i] = api.Msg{Kind: 9, From: 9, Data: []byte("?")}
	}
}

// roomy answers bytes with room behind them that is marked.
func roomy(data []byte) []byte {
	b := append(bytes.Clone(data), bytes.Repeat([]byte{0xcc}, 16)...)
	return b[:len(data)]
}

// roomyAll answers entries with room behind their row, and behind what each holds.
func roomyAll(some []api.Entry) []api.Entry {
	c := append(twin(some), none(8, 8), command(9, 9, "room"), conf(7, 7, 2))
	for i := range c {
		c[i].Data = roomy(c[i].Data)
	}
	return c[:len(some)]
}

// deep answers entries in memory of their own, with those in the room behind the row, and
// with the room behind what each holds.
func deep(some []api.Entry) []api.Entry {
	c := slices.Clone(some[:cap(some)])
	for i := range c {
		c[i].Data = bytes.Clone(c[i].Data[:cap(c[i].Data)])
	}
	return c
}

// TestHandedInToNew: R2, what New is given stays as it was, and may be written over then.
func TestHandedInToNew(t *testing.T) {
	x := start{config(3), 2, api.Hard{Term: 3}, api.Snap{Base: base, Data: roomy(stuff(300))}, roomyAll(row(none(1, 2), command(2, 3, "three"), conf(2, 4, 6))), 0}
	data, some := bytes.Clone(x.s.Data[:cap(x.s.Data)]), deep(x.some)
	clean := start{config(3), 2, api.Hard{Term: 3}, api.Snap{Base: base, Data: stuff(300)}, row(none(1, 2), command(2, 3, "three"), conf(2, 4, 6)), 0}
	p := pair{begun(t, x.c, 2, x.h, x.s, 0, x.some...), modelOf(clean)}
	for range 3 {
		p.step(t, appends(1, 2, 4, 3, 2, 3, none(4, 4)), 0)
		p.step(t, appends(1, 2, 4, 4, 4, 4, command(4, 5, "five")), 0)
		p.take(t, "R2")
	}
	if !bytes.Equal(x.s.Data[:cap(x.s.Data)], data) || !same(deep(x.some), some) {
		t.Errorf("R2: what New was given is changed: %s %s", short(x.s.Data), short(x.some))
	}
	scrawl(x.s.Data)
	scrawlAll(x.some)
	agree(t, "R2: what New was given is written over", p.n, p.m)
	// Only a leader shows the data of its snapshot.
	p.step(t, wouldNot(1, 2, 5), 0)
	p.runs(t)
	p.step(t, lacks(3, 2, 6, 0), 0)
	p.step(t, wants(3, 2, 6, base, 256), 0)
	o := p.take(t, "R2: what New was given is written over")
	if len(o.Msgs) == 0 || !bytes.Equal(o.Msgs[len(o.Msgs)-1].Data, stuff(300)[256:]) {
		t.Errorf("R2: what New was given is written over: it sends %s", short(o.Msgs))
	}
}

// runs makes a node the leader of a new term.
func (p pair) runs(t *testing.T) {
	t.Helper()
	for range p.m.limit - p.m.elapsed {
		p.tick(0)
	}
	for other := 1; other <= p.m.c.Nodes; other++ {
		if other != p.m.id {
			p.step(t, would(other, p.m.id, p.m.hard.Term+1), 0)
		}
	}
	for other := 1; other <= p.m.c.Nodes; other++ {
		if other != p.m.id {
			p.step(t, votes(other, p.m.id, p.m.hard.Term), 0)
		}
	}
	if s := p.n.Status(); s.Role != api.Leader {
		t.Fatalf("17.4: with all votes: %+v", s)
	}
}

// TestHandedInToStep: R2, messages stay as they were, and may be written over then.
func TestHandedInToStep(t *testing.T) {
	p := led(t, 0)
	m := appends(3, 2, 4, 4, 3, 2)
	m.Entries = roomyAll(row(command(4, 5, "five"), conf(4, 6, 14)))
	some := deep(m.Entries)
	p.step(t, m, 0)
	p.step(t, m, 0)
	if !same(deep(m.Entries), some) {
		t.Errorf("R2: entries of a message are changed: %s", short(m.Entries))
	}
	scrawlAll(m.Entries)
	agree(t, "R2: entries of a message are written over", p.n, p.m)
	p.take(t, "R2: entries of a message are written over")

	for _, last := range []bool{false, true} {
		p = led(t, 0)
		m = piece(3, 2, 4, other, 0, roomy(stuff(9)), last)
		data := bytes.Clone(m.Data[:cap(m.Data)])
		p.step(t, m, 0)
		if !bytes.Equal(m.Data[:cap(m.Data)], data) {
			t.Errorf("R2: a piece is changed: %s", short(m.Data))
		}
		scrawl(m.Data)
		p.take(t, "R2: a piece is written over")
		p.step(t, piece(3, 2, 4, other, 9, []byte("rest"), true), 0)
		agree(t, "R2: a piece is written over", p.n, p.m)
		p.take(t, "R2: a piece is written over")
	}
}

// TestHandedInToRefused: R2, messages and commands that are refused stay as they were too.
func TestHandedInToRefused(t *testing.T) {
	p := led(t, 0)
	some := roomyAll(row(command(4, 9, "nine"), command(4, 10, "ten")))
	was := deep(some)
	for _, m := range []api.Msg{
		appends(3, 2, 4, 4, 3, 2, some...), appends(3, 2, 4, 8, 4, 2, some...), appends(3, 2, 3, 8, 3, 2, some...),
		{Kind: 1, From: 3, To: 2, Term: 9, Entries: some}, {Kind: 9, Entries: some},
	} {
		m.Entries = some
		p.n.Step(m, 0)
	}
	if !same(deep(some), was) {
		t.Errorf("R2: entries that are refused are changed: %s", short(some))
	}
	data := roomy(stuff(mostData + 1))
	full := bytes.Clone(data[:cap(data)])
	leader(t).Propose(data)
	p.n.Propose(data[:4])
	if !bytes.Equal(data[:cap(data)], full) {
		t.Errorf("R2: a command that is refused is changed: %s", short(data))
	}
}

// TestHandedInToPropose: R2, a command stays as it was, and may be written over then.
func TestHandedInToPropose(t *testing.T) {
	n := leader(t)
	data := roomy([]byte("three"))
	full := bytes.Clone(data[:cap(data)])
	if at, e := n.Propose(data); at != 3 || e != api.OK {
		t.Errorf("17.5: Propose: %d %d", at, e)
	}
	if !bytes.Equal(data[:cap(data)], full) {
		t.Errorf("R2: a command is changed: %s", short(data))
	}
	scrawl(data)
	three := command(2, 3, "three")
	o := tells(t, "R2: a command is written over", n, appends(1, 2, 2, 1, 1, 2, none(2, 2), three), appends(1, 3, 2, 2, 2, 2, three))
	keeps(t, "R2: a command is written over", o, api.Snap{}, false, three)
	logged(t, "R2: a command is written over", n, none(2, 2), three)
}

// TestHandedInToCompact: R2, a snapshot stays as it was, and may be written over then.
func TestHandedInToCompact(t *testing.T) {
	n := leader(t)
	b := api.Base{Index: 2, Term: 2, Conf: 14}
	data := roomy(stuff(300))
	full := bytes.Clone(data[:cap(data)])
	for range 2 {
		n.Compact(api.Snap{Base: b, Data: data})
	}
	if !bytes.Equal(data[:cap(data)], full) {
		t.Errorf("R2: a snapshot is changed: %s", short(data))
	}
	scrawl(data)
	does(t, "R2: a snapshot is written over", n, lacks(2, 1, 2, 1), piece(1, 2, 2, b, 0, stuff(300)[:256], false))
	does(t, "R2: a snapshot is written over", n, wants(2, 1, 2, b, 256), piece(1, 2, 2, b, 256, stuff(300)[256:], true))
}

// TestAnswersAreNew: R2, what is told may be written over: nothing of the node changes, nor
// what was told beside it. Drawn steps of many nodes.
func TestAnswersAreNew(t *testing.T) {
	snaps, pieces, many := 0, 0, 0
	for seed := range uint64(400) {
		rnd := rand.New(rand.NewPCG(172, seed))
		p := paired(t, drawnStart(rnd))
		for range 80 {
			drawnCall(t, rnd, p, seed%2 == 0)
			scrawlAll(p.n.Entries(p.m.base.Index+1, 99))
			o := p.take(t, "R2: written over")
			if len(o.Snap.Data) > 0 {
				snaps++
			}
			if len(o.Msgs) > 1 && len(o.Msgs[0].Entries) > 0 {
				many++
			}
			if len(o.Msgs) > 0 && o.Msgs[0].Kind == 5 && len(o.Msgs[0].Data) > 0 {
				pieces++
			}
			scrawlOut(o)
			agree(t, "R2: what was told is written over", p.n, p.m)
		}
	}
	if snaps < 100 || pieces < 30 || many < 100 {
		t.Errorf("R2: only %d snapshots, %d pieces, %d messages to many were told", snaps, pieces, many)
	}
}

// TestApartInOne: R2, no two parts of one answer share memory.
func TestApartInOne(t *testing.T) {
	n := leads(t, begun(t, config(4), 1, api.Hard{Term: 1}, api.Snap{Base: api.Base{Index: 1, Term: 1, Conf: 30}}, 0))
	for _, data := range []string{"c", "d"} {
		if _, e := n.Propose([]byte(data)); e != api.OK {
			t.Errorf("17.5: Propose: %d", e)
		}
	}
	o := n.Take()
	if len(o.Msgs) != 6 || len(o.Entries) != 2 {
		t.Fatalf("17.5: %s", short(o))
	}
	three := row(none(2, 2), command(2, 3, "c"), command(2, 4, "d"))
	for i := range o.Msgs {
		if want := three[:2+i/3]; !same(o.Msgs[i].Entries, want) {
			t.Errorf("R2: those told before were written over: %s, not %s", short(o.Msgs[i]), short(want))
		}
		scrawlAll(o.Msgs[i].Entries)
	}
	if !same(o.Entries, three[1:]) {
		t.Errorf("R2: the messages were written over: %s", short(o.Entries))
	}
	scrawlAll(o.Entries)
	logged(t, "R2: all was written over", n, three...)

	x := api.Snap{Base: other, Data: stuff(300)}
	f := alone(t).n
	steps(t, f, piece(1, 2, 4, other, 0, x.Data[:256], false), piece(1, 2, 4, other, 256, x.Data[256:], true))
	o = f.Take()
	scrawl(o.Snap.Data)
	leads(t, f)
	does(t, "R2: a snapshot that was told is written over", f, lacks(1, 2, 5, 0), piece(2, 1, 5, other, 0, x.Data[:256], false))
	does(t, "R2: a snapshot that was told is written over", f, wants(1, 2, 5, other, 0), piece(2, 1, 5, other, 0, x.Data[:256], false))
	does(t, "R2: a snapshot that was told is written over", f, lacks(3, 2, 5, 0), piece(2, 3, 5, other, 0, x.Data[:256], false))
}

// TestPiecesAreNew: R2, pieces of a snapshot that are sent may be written over.
func TestPiecesAreNew(t *testing.T) {
	p := shortened(t)
	b := api.Base{Index: 4, Term: 3, Conf: 14}
	for _, offset := range []int{0, 100, 344, 600, 0} {
		if e := p.n.Step(wants(3, 2, 5, b, offset), 0); e != api.OK {
			t.Errorf("17.4: %d", e)
		}
		o := p.n.Take()
		end := min(600, offset+256)
		if len(o.Msgs) != 1 || !bytes.Equal(o.Msgs[0].Data, stuff(600)[offset:end]) {
			t.Errorf("R2: the piece at %d: %s", offset, short(o.Msgs))
		}
		scrawlOut(o)
	}
}

// TestAnswersStay: R2, what was told stays as it is, whatever is done to the node.
func TestAnswersStay(t *testing.T) {
	n := leader(t)
	if _, e := n.Propose([]byte("three")); e != api.OK {
		t.Errorf("17.5: Propose: %d", e)
	}
	o := n.Take()
	told := n.Entries(2, 9)
	steps(t, n, has(2, 1, 2, 3), appends(2, 1, 9, 2, 2, 2, command(9, 3, "other")), piece(2, 1, 9, api.Base{Index: 20, Term: 9, Conf: 14}, 0, stuff(5), true))
	if s := n.Status(); s.Base.Index != 20 {
		t.Errorf("17.4: %+v", s)
	}
	three := command(2, 3, "three")
	keeps(t, "R2: what was told", o, api.Snap{}, false, three)
	if !same(told, row(none(2, 2), three)) || len(o.Msgs) != 2 || !sameMsg(o.Msgs[0], appends(1, 2, 2, 1, 1, 2, none(2, 2), three)) {
		t.Errorf("R2: what was told is changed: %s %s", short(told), short(o.Msgs))
	}
}

// TestApart: R8, two nodes made of the same do not know of each other.
func TestApart(t *testing.T) {
	x := start{config(3), 2, api.Hard{Term: 3}, api.Snap{Base: base, Data: stuff(300)}, row(none(1, 2), command(2, 3, "three")), 0}
	one, two := paired(t, x), paired(t, x)
	one.runs(t)
	one.propose(t, []byte("four"))
	one.step(t, has(1, 2, 4, 5), 0)
	one.compact(t, api.Snap{Base: api.Base{Index: 4, Term: 4, Conf: 14}})
	agree(t, "R8: the other", two.n, two.m)
	two.take(t, "R8: the other")
	two.step(t, appends(1, 2, 9, 2, 1, 2, none(9, 3)), 0)
	agree(t, "R8: one", one.n, one.m)
	agree(t, "R8: the other", two.n, two.m)
	one.take(t, "R8: one")
	two.take(t, "R8: the other")
}
