package core_test

import (
	"bytes"
	"fmt"
	"slices"
	"testing"

	"bursar/api"
	"bursar/core"
)

// What the chapter and api tell in words, written anew.
const (
	mostNumber = 1<<56 - 1
	mostData   = 128
	mostBatch  = 4
	mostPiece  = 256
	mostImage  = 32768
	mostTicks  = 1048576
	mostNodes  = 7
)

// config answers one for so many nodes, with the chapter's Low, High and Beat.
func config(nodes int) api.Config {
	return api.Config{
		Nodes: nodes, First: all(nodes), Low: 10, High: 20, Beat: 2, Log: 64, Segment: 512, Disk: api.MaxDisk,
		Bag: 64, Pending: 2, Accounts: 4, Sessions: 2, Life: 100,
	}
}

// all answers the set of the nodes from 1 to n.
func all(n int) int {
	set := 0
	for i := 1; i <= n; i++ {
		set += 1 << i
	}
	return set
}

// The chapter's base, and its snapshot.
var base = api.Base{Index: 1, Term: 1, Conf: 14}

func snap() api.Snap { return api.Snap{Base: base, Data: []byte("image")} }

// Short ways to write entries.

func none(term, index uint64) api.Entry { return api.Entry{Term: term, Index: index} }
func command(term, index uint64, data string) api.Entry {
	return api.Entry{Kind: 1, Term: term, Index: index, Data: []byte(data)}
}
func conf(term, index uint64, set int) api.Entry {
	return api.Entry{Kind: 2, Term: term, Index: index, Conf: set}
}
func row(some ...api.Entry) []api.Entry { return some }

// run answers entries with the given terms, from an index on.
func run(from uint64, terms ...uint64) []api.Entry {
	var some []api.Entry
	for k, term := range terms {
		some = append(some, none(term, from+uint64(k)))
	}
	return some
}

// Short ways to write messages.

func asking(from, to int, term, index, logTerm uint64) api.Msg {
	return api.Msg{Kind: 1, From: from, To: to, Term: term, Index: index, LogTerm: logTerm}
}
func voting(from, to int, term, index, logTerm uint64) api.Msg {
	return api.Msg{Kind: 1, From: from, To: to, Term: term, Index: index, LogTerm: logTerm, Last: true}
}
func would(from, to int, term uint64) api.Msg {
	return api.Msg{Kind: 2, From: from, To: to, Term: term}
}
func wouldNot(from, to int, term uint64) api.Msg {
	return api.Msg{Kind: 2, From: from, To: to, Term: term, Refused: true}
}
func votes(from, to int, term uint64) api.Msg {
	return api.Msg{Kind: 2, From: from, To: to, Term: term, Last: true}
}
func votesNot(from, to int, term uint64) api.Msg {
	return api.Msg{Kind: 2, From: from, To: to, Term: term, Refused: true, Last: true}
}
func appends(from, to int, term, index, logTerm, commit uint64, some ...api.Entry) api.Msg {
	return api.Msg{Kind: 3, From: from, To: to, Term: term, Index: index, LogTerm: logTerm, Commit: commit, Entries: some}
}
func has(from, to int, term, index uint64) api.Msg {
	return api.Msg{Kind: 4, From: from, To: to, Term: term, Index: index}
}
func lacks(from, to int, term, index uint64) api.Msg {
	return api.Msg{Kind: 4, From: from, To: to, Term: term, Index: index, Refused: true}
}
func piece(from, to int, term uint64, b api.Base, offset int, data []byte, last bool) api.Msg {
	return api.Msg{Kind: 5, From: from, To: to, Term: term, Base: b, Offset: offset, Data: data, Last: last}
}
func wants(from, to int, term uint64, b api.Base, offset int) api.Msg {
	return api.Msg{Kind: 6, From: from, To: to, Term: term, Base: b, Offset: offset}
}

// stuff answers n bytes of which no two places near by are alike.
func stuff(n int) []byte {
	b := make([]byte, n)
	for i := range b {
		b[i] = byte(i ^ i>>8*7)
	}
	return b
}

// begun makes a node, which may not fail.
func begun(t *testing.T, c api.Config, id int, h api.Hard, s api.Snap, draw uint64, some ...api.Entry) *core.Core {
	t.Helper()
	n, e := core.New(c, id, h, s, some, draw)
	if n == nil || e != api.OK {
		t.Fatalf("17.1: New of %d with %v %v %s: %d", id, h, s.Base, short(some), e)
	}
	return n
}

// made makes one of three nodes, with the chapter's snapshot and a Limit of 13.
func made(t *testing.T, id int, h api.Hard, some ...api.Entry) *core.Core {
	t.Helper()
	return begun(t, config(3), id, h, snap(), 3, some...)
}

// ticks moves the clock of a node on.
func ticks(n *core.Core, k int) {
	for range k {
		n.Tick(0)
	}
}

// canvasses makes a node ask who would vote for it.
func canvasses(t *testing.T, n *core.Core) {
	t.Helper()
	s := n.Status()
	ticks(n, s.Limit-s.Elapsed)
	if got := n.Status(); got.Elapsed != 0 && got.Role != api.Leader {
		t.Fatalf("17.3: after as many ticks as its Limit: %+v", got)
	}
}

// runs makes a node stand for election, with all others for it; one that is alone leads.
func runs(t *testing.T, n *core.Core) {
	t.Helper()
	canvasses(t, n)
	s := n.Status()
	if s.Role == api.Leader {
		return
	}
	for p := 1; p <= mostNodes && n.Status().Hard == s.Hard; p++ {
		if p != s.ID {
			n.Step(would(p, s.ID, s.Hard.Term+1), 0)
		}
	}
	if got := n.Status(); got.Hard != (api.Hard{Term: s.Hard.Term + 1, Vote: s.ID}) {
		t.Fatalf("17.4: with all that would vote for it: %+v", got)
	}
}

// leads makes a node the leader of a new term, and takes what it told.
func leads(t *testing.T, n *core.Core) *core.Core {
	t.Helper()
	if n.Status().Role != api.Leader {
		runs(t, n)
	}
	s := n.Status()
	for p := 1; p <= mostNodes && n.Status().Role == api.Candidate; p++ {
		if p != s.ID {
			n.Step(votes(p, s.ID, s.Hard.Term), 0)
		}
	}
	if s = n.Status(); s.Role != api.Leader || s.Lead != s.ID {
		t.Fatalf("17.4: with all votes: %+v", s)
	}
	n.Take()
	return n
}

// leader makes node 1 of three the leader of term 2, whose entry 2 is committed: 3 has it,
// and of 2 nothing is known.
func leader(t *testing.T) *core.Core {
	t.Helper()
	n := leads(t, made(t, 1, api.Hard{Term: 1}))
	n.Step(has(3, 1, 2, 2), 0)
	n.Take()
	if s := n.Status(); s.Commit != 2 || s.Last != 2 || s.Hard != (api.Hard{Term: 2, Vote: 1}) {
		t.Fatalf("17.2: %+v", s)
	}
	return n
}

// proposes lays commands into the log of a leader, and takes what it told.
func proposes(t *testing.T, n *core.Core, some ...string) {
	t.Helper()
	for _, data := range some {
		last := n.Status().Last
		if at, e := n.Propose([]byte(data)); at != last+1 || e != api.OK {
			t.Fatalf("17.5: Propose behind %d: %d %d", last, at, e)
		}
	}
	n.Take()
}

// does hands a message to a node, and fails where it is refused, or where other messages
// are sent than those. It answers what else is told.
func does(t *testing.T, what string, n *core.Core, m api.Msg, want ...api.Msg) core.Out {
	t.Helper()
	if e := n.Step(m, 5); e != api.OK {
		t.Errorf("17.4: %s: Step(%s): %d", what, short(m), e)
	}
	return tells(t, "17.4: "+what, n, want...)
}

// tells fails where a node sent other messages than those, and answers what else it tells.
func tells(t *testing.T, what string, n *core.Core, want ...api.Msg) core.Out {
	t.Helper()
	o := n.Take()
	if !slices.EqualFunc(o.Msgs, want, sameMsg) {
		t.Errorf("%s: it sends %s, not %s", what, short(o.Msgs), short(want))
	}
	if s := n.Status(); o.Hard != s.Hard {
		t.Errorf("17.7: %s: Take tells %v of %v", what, o.Hard, s.Hard)
	}
	return o
}

// stands fails where the Status of a node is not what it was, but for what change does.
func stands(t *testing.T, what string, n *core.Core, was api.Status, change func(s *api.Status)) {
	t.Helper()
	if change != nil {
		change(&was)
	}
	if s := n.Status(); s != was {
		t.Errorf("17: %s: it stands %+v, not %+v", what, s, was)
	}
}

// keeps fails where what is to be kept is not that snapshot, or not those entries.
func keeps(t *testing.T, what string, o core.Out, s api.Snap, kept bool, some ...api.Entry) {
	t.Helper()
	var from uint64
	if len(some) > 0 {
		from = some[0].Index
	}
	if !sameSnap(o.Snap, s) || o.Kept != kept {
		t.Errorf("17.7: %s: it tells the snapshot %s %t, not %s %t", what, short(o.Snap), o.Kept, short(s), kept)
	}
	if o.From != from || !same(o.Entries, some) {
		t.Errorf("17.7: %s: it tells the entries from %d: %s, not from %d: %s", what, o.From, short(o.Entries), from, short(some))
	}
}

// logged fails where a node has other entries than those.
func logged(t *testing.T, what string, n *core.Core, some ...api.Entry) {
	t.Helper()
	s := n.Status()
	if got := n.Entries(s.Base.Index+1, 1<<20); !same(got, some) || s.Last != s.Base.Index+uint64(len(some)) {
		t.Errorf("17: %s: its log from %v to %d: %s, not %s", what, s.Base, s.Last, short(got), short(some))
	}
}

// short answers the beginning of what v is told as.
func short(v any) string {
	s := fmt.Sprintf("%+v", v)
	if len(s) > 400 {
		return s[:400] + ".."
	}
	return s
}

// sameEntry tells whether two entries are alike; nil and no bytes are.
func sameEntry(x, y api.Entry) bool {
	return x.Kind == y.Kind && x.Term == y.Term && x.Index == y.Index && bytes.Equal(x.Data, y.Data) && x.Conf == y.Conf
}

// same tells whether two rows of entries are alike.
func same(some, others []api.Entry) bool { return slices.EqualFunc(some, others, sameEntry) }

// sameSnap tells whether two snapshots are alike.
func sameSnap(a, b api.Snap) bool { return a.Base == b.Base && bytes.Equal(a.Data, b.Data) }

// sameMsg tells whether two messages are alike.
func sameMsg(a, b api.Msg) bool {
	return same(a.Entries, b.Entries) && bytes.Equal(a.Data, b.Data) &&
		a.Kind == b.Kind && a.From == b.From && a.To == b.To && a.Term == b.Term && a.Index == b.Index && a.LogTerm == b.LogTerm &&
		a.Commit == b.Commit && a.Refused == b.Refused && a.Base == b.Base && a.Offset == b.Offset && a.Last == b.Last
}

// twin answers entries in memory of their own.
func twin(some []api.Entry) []api.Entry {
	c := slices.Clone(some)
	for i := range c {
		c[i].Data = bytes.Clone(c[i].Data)
	}
	return c
}
