package core_test

import (
	"math"
	"slices"
	"testing"

	"bursar/api"
	"bursar/core"
	"bursar/rpc"
)

// model is a node as the chapter tells it: a row of entries that is gone through from its
// beginning for each question, and what each of its operations says word by word.
type model struct {
	c              api.Config
	id             int
	hard           api.Hard
	base           api.Base
	image          []byte
	row            []api.Entry
	commit         uint64
	role, lead     int
	canvassing     bool
	elapsed, limit int
	yes            []int
	taking         api.Base
	taken          []byte
	next, match    [mostNodes + 1]uint64
	offset         [mostNodes + 1]int

	laid []uint64 // the indexes at which entries were put or appended, since the last take
	snap api.Snap
	kept bool
	msgs []api.Msg
}

// modelOf answers a node just made.
func modelOf(x start) *model {
	return &model{
		c: x.c, id: x.id, hard: x.h, base: x.s.Base, image: slices.Clone(x.s.Data), row: twin(x.some), commit: x.s.Base.Index,
		limit: drawnLimit(x.c, x.draw),
	}
}

func drawnLimit(c api.Config, draw uint64) int {
	return c.Low + int(draw%(uint64(c.High)-uint64(c.Low)+1))
}

func (m *model) last() uint64 { return m.base.Index + uint64(len(m.row)) }

func (m *model) term(index uint64) (uint64, bool) {
	for _, x := range m.row {
		if x.Index == index {
			return x.Term, true
		}
	}
	if index == m.base.Index {
		return m.base.Term, true
	}
	return 0, false
}

func (m *model) termIs(index, term uint64) bool {
	own, ok := m.term(index)
	return ok && own == term
}

// confAt answers the last configuration up to an index, and where it is.
func (m *model) confAt(index uint64) (int, uint64) {
	set, at := m.base.Conf, m.base.Index
	for _, x := range m.row {
		if x.Kind == 2 && x.Index <= index {
			set, at = x.Conf, x.Index
		}
	}
	return set, at
}

func (m *model) conf() (int, uint64) { return m.confAt(math.MaxUint64) }

func (m *model) good(index, term uint64) bool {
	own, _ := m.term(m.last())
	if term == own {
		return index >= m.last()
	}
	return term > own
}

// members answers the nodes of a set.
func members(set int) []int {
	var some []int
	for p := 1; p <= mostNodes; p++ {
		if set&(1<<p) != 0 {
			some = append(some, p)
		}
	}
	return some
}

// most tells whether those who said yes are more than half of the members.
func (m *model) most() bool {
	set, _ := m.conf()
	n := 0
	for _, p := range members(set) {
		if slices.Contains(m.yes, p) {
			n++
		}
	}
	return n*2 > len(members(set))
}

func (m *model) mayCanvass() bool {
	set, at := m.conf()
	in := slices.Contains(members(set), m.id)
	if !in && at > m.commit {
		before, _ := m.confAt(at - 1)
		in = slices.Contains(members(before), m.id)
	}
	return in && m.elapsed >= m.limit && m.hard.Term < mostNumber && m.last() < mostNumber
}

func (m *model) send(x api.Msg) {
	x.From = m.id
	m.msgs = append(m.msgs, x)
}

// toOthers does something for each other member.
func (m *model) toOthers(do func(p int)) {
	set, _ := m.conf()
	for _, p := range members(set) {
		if p != m.id {
			do(p)
		}
	}
}

func (m *model) askAll(term uint64, last bool) {
	own, _ := m.term(m.last())
	m.toOthers(func(p int) {
		m.send(api.Msg{Kind: 1, To: p, Term: term, Index: m.last(), LogTerm: own, Last: last})
	})
}

func (m *model) tick(draw uint64) {
	m.elapsed++
	if m.role == 2 {
		if m.elapsed >= m.c.Beat {
			m.elapsed = 0
			m.toOthers(m.sendTo)
		}
		return
	}
	if m.elapsed > mostTicks {
		m.elapsed = mostTicks
	}
	if !m.mayCanvass() {
		return
	}
	m.canvassing, m.lead, m.role, m.elapsed, m.limit = true, 0, 0, 0, drawnLimit(m.c, draw)
	m.taking, m.taken = api.Base{}, nil
	m.yes = []int{m.id}
	if m.most() {
		m.stand()
	} else {
		m.askAll(m.hard.Term+1, false)
	}
}

func (m *model) stand() {
	m.canvassing, m.role = false, 1
	m.hard = api.Hard{Term: m.hard.Term + 1, Vote: m.id}
	m.yes = []int{m.id}
	if m.most() {
		m.becomeLeader()
	} else {
		m.askAll(m.hard.Term, true)
	}
}

func (m *model) becomeLeader() {
	m.role, m.lead, m.elapsed = 2, m.id, 0
	for p := range m.next {
		m.next[p], m.match[p], m.offset[p] = m.last()+1, 0, 0
	}
	m.append(api.Entry{})
	m.toOthers(m.sendTo)
	m.count()
}

// append lays an entry behind the last one, if it may be there.
func (m *model) append(x api.Entry) uint64 {
	x.Term, x.Index = m.hard.Term, m.last()+1
	own, _ := m.term(m.last())
	if x.Term >= own && rpc.RightEntry(x) {
		m.row = append(m.row, twin(row(x))...)
		m.laid = append(m.laid, x.Index)
	}
	return x.Index
}

func (m *model) sendTo(p int) {
	if m.next[p] <= m.base.Index {
		end := min(m.offset[p]+mostPiece, len(m.image))
		m.send(piece(0, p, m.hard.Term, m.base, m.offset[p], m.image[m.offset[p]:end], end == len(m.image)))
		return
	}
	before, _ := m.term(m.next[p] - 1)
	x := appends(0, p, m.hard.Term, m.next[p]-1, before, m.commit)
	for _, e := range m.row {
		if e.Index >= m.next[p] && len(x.Entries) < mostBatch {
			x.Entries = append(x.Entries, e)
		}
	}
	m.send(x)
}

func (m *model) count() {
	set, at := m.conf()
	some := members(set)
	for i := m.last(); i > m.commit; i-- {
		n := 0
		for _, p := range some {
			if p == m.id || m.match[p] >= i {
				n++
			}
		}
		if n*2 > len(some) {
			// Of the indexes that more than half have, only the greatest counts.
			if m.termIs(i, m.hard.Term) {
				m.commit = i
			}
			break
		}
	}
	if at <= m.commit && !slices.Contains(some, m.id) {
		m.role, m.lead = 0, 0
	}
}

func (m *model) follow(term uint64) {
	m.hard = api.Hard{Term: term}
	m.lead, m.role, m.canvassing = 0, 0, false
	m.taking, m.taken = api.Base{}, nil
}

func (m *model) step(x api.Msg, draw uint64) api.Errno {
	if !rpc.Right(x) || x.To != m.id || x.From > m.c.Nodes {
		return api.ErrArg
	}
	led := m.role == 2 || m.lead != 0 && m.elapsed < m.c.Low
	switch {
	case x.Kind == 1 && !x.Last:
		if x.Term > m.hard.Term && !led && m.good(x.Index, x.LogTerm) {
			m.send(would(0, x.From, x.Term))
		} else {
			m.send(wouldNot(0, x.From, m.hard.Term))
		}
	case x.Kind == 2 && !x.Last && x.Refused:
		if x.Term > m.hard.Term {
			m.follow(x.Term)
		}
	case x.Kind == 2 && !x.Last:
		if m.canvassing && x.Term == m.hard.Term+1 {
			if m.yes = append(m.yes, x.From); m.most() {
				m.stand()
			}
		}
	case x.Term < m.hard.Term:
		if x.Kind == 1 {
			m.send(votesNot(0, x.From, m.hard.Term))
		} else if x.Kind == 3 || x.Kind == 5 {
			m.send(lacks(0, x.From, m.hard.Term, 0))
		}
	case x.Term > m.hard.Term && x.Kind == 1 && led:
	default:
		if x.Term > m.hard.Term {
			m.follow(x.Term)
		}
		m.ofTerm(x, draw)
	}
	return api.OK
}

// ofTerm takes a message of the node's term.
func (m *model) ofTerm(x api.Msg, draw uint64) {
	toLeader := x.Kind == 4 || x.Kind == 6
	fromLeader := x.Kind == 3 || x.Kind == 5
	if toLeader != (m.role == 2) && (toLeader || fromLeader) {
		return
	}
	if fromLeader {
		m.role, m.lead, m.canvassing, m.elapsed = 0, x.From, false, 0
	}
	switch x.Kind {
	case 1:
		m.vote(x, draw)
	case 2:
		if m.role == 1 && !x.Refused {
			if m.yes = append(m.yes, x.From); m.most() {
				m.becomeLeader()
			}
		}
	case 3:
		m.put(x)
	case 4:
		m.answered(x)
	case 5:
		m.takePiece(x)
	case 6:
		if x.Base == m.base && m.next[x.From] <= m.base.Index && x.Offset <= len(m.image) {
			m.offset[x.From] = x.Offset
			m.sendTo(x.From)
		}
	}
}

func (m *model) vote(x api.Msg, draw uint64) {
	free := m.hard.Vote == x.From
	if m.hard.Vote == 0 && m.lead == 0 {
		free = true
	}
	if !free || !m.good(x.Index, x.LogTerm) {
		m.send(votesNot(0, x.From, m.hard.Term))
		return
	}
	m.hard.Vote, m.canvassing, m.elapsed, m.limit = x.From, false, 0, drawnLimit(m.c, draw)
	m.send(votes(0, x.From, m.hard.Term))
}

func (m *model) put(x api.Msg) {
	if x.Index < m.commit {
		m.send(has(0, x.From, m.hard.Term, m.commit))
		return
	}
	if !m.termIs(x.Index, x.LogTerm) {
		back := x.Index
		if back > 0 {
			back--
		}
		m.send(lacks(0, x.From, m.hard.Term, min(back, m.last())))
		return
	}
	for k, e := range x.Entries {
		if !m.termIs(e.Index, e.Term) {
			m.row = slices.DeleteFunc(m.row, func(old api.Entry) bool { return old.Index >= e.Index })
			m.row = append(m.row, twin(x.Entries[k:])...)
			m.laid = append(m.laid, e.Index)
			break
		}
	}
	top := x.Index + uint64(len(x.Entries))
	m.commit = max(m.commit, min(x.Commit, top))
	m.send(has(0, x.From, m.hard.Term, top))
}

func (m *model) answered(x api.Msg) {
	p := x.From
	if x.Index > m.last() {
		return
	}
	if x.Refused {
		m.next[p] = max(m.match[p], x.Index) + 1
		m.sendTo(p)
		return
	}
	if x.Index <= m.match[p] {
		return
	}
	m.match[p] = x.Index
	m.count()
	if m.next[p] <= m.match[p] {
		m.next[p], m.offset[p] = m.match[p]+1, 0
	}
	if m.role == 2 && m.match[p] < m.last() {
		m.sendTo(p)
	}
}

func (m *model) takePiece(x api.Msg) {
	if x.Base.Index <= m.commit {
		m.send(has(0, x.From, m.hard.Term, m.commit))
		return
	}
	if x.Base != m.taking {
		m.taking, m.taken = x.Base, nil
	}
	fits := x.Offset == len(m.taken) && len(m.taken)+len(x.Data) <= mostImage
	if fits {
		m.taken = append(m.taken, x.Data...)
	}
	if !fits || !x.Last {
		m.send(wants(0, x.From, m.hard.Term, x.Base, len(m.taken)))
		return
	}
	m.kept = m.termIs(x.Base.Index, x.Base.Term)
	m.image = m.taken
	m.snap = api.Snap{Base: x.Base, Data: m.taken}
	m.row = slices.DeleteFunc(m.row, func(e api.Entry) bool { return !m.kept || e.Index <= x.Base.Index })
	m.base, m.commit = x.Base, x.Base.Index
	m.taking, m.taken = api.Base{}, nil
	m.send(has(0, x.From, m.hard.Term, x.Base.Index))
}

func (m *model) full() bool { return len(m.row) >= m.c.Log || m.last() == mostNumber }

func (m *model) propose(data []byte) (uint64, api.Errno) {
	if m.role != 2 {
		return 0, api.ErrLeader
	}
	if len(data) == 0 || len(data) > mostData {
		return 0, api.ErrArg
	}
	if m.full() {
		return 0, api.ErrFull
	}
	index := m.append(api.Entry{Kind: 1, Data: data})
	m.toOthers(m.sendTo)
	m.count()
	return index, api.OK
}

func (m *model) change(add bool, node int) (uint64, api.Errno) {
	if m.role != 2 {
		return 0, api.ErrLeader
	}
	set, at := m.conf()
	if at > m.commit || !m.termIs(m.commit, m.hard.Term) {
		return 0, api.ErrBusy
	}
	if node < 1 || node > m.c.Nodes {
		return 0, api.ErrArg
	}
	there := slices.Contains(members(set), node)
	if there == add || !add && len(members(set)) == 1 {
		return 0, api.ErrMember
	}
	if m.full() {
		return 0, api.ErrFull
	}
	index := m.append(api.Entry{Kind: 2, Conf: set ^ 1<<node})
	if add {
		m.next[node], m.match[node], m.offset[node] = index, 0, 0
	}
	m.toOthers(m.sendTo)
	m.count()
	return index, api.OK
}

func (m *model) compact(s api.Snap) api.Errno {
	set, _ := m.confAt(s.Base.Index)
	if len(s.Data) > mostImage || s.Base.Index <= m.base.Index || s.Base.Index > m.commit ||
		!m.termIs(s.Base.Index, s.Base.Term) || s.Base.Conf != set || set == 0 {
		return api.ErrArg
	}
	m.row = slices.DeleteFunc(m.row, func(e api.Entry) bool { return e.Index <= s.Base.Index })
	m.base, m.image = s.Base, slices.Clone(s.Data)
	m.offset = [mostNodes + 1]int{}
	return api.OK
}

func (m *model) take() core.Out {
	o := core.Out{Hard: m.hard, Snap: m.snap, Kept: m.kept, Msgs: m.msgs}
	if len(m.laid) > 0 {
		from := max(slices.Min(m.laid), m.base.Index+1)
		for _, e := range m.row {
			if e.Index >= from {
				o.From = from
				o.Entries = append(o.Entries, e)
			}
		}
	}
	m.laid, m.snap, m.kept, m.msgs = nil, api.Snap{}, false, nil
	return o
}

// status answers how the model stands.
func (m *model) status() api.Status {
	set, at := m.conf()
	s := api.Status{
		ID: m.id, Role: m.role, Lead: m.lead, Hard: m.hard, Base: m.base, Last: m.last(), Commit: m.commit,
		Conf: set, ConfIndex: at, Elapsed: m.elapsed, Limit: m.limit, Buffered: len(m.taken),
	}
	if m.taking.Index != 0 {
		s.Receiving = 1
	}
	return s
}

// agree fails where a node stands, or tells its log, otherwise than its model.
func agree(t *testing.T, what string, n *core.Core, m *model) {
	t.Helper()
	if s := n.Status(); s != m.status() {
		t.Fatalf("17: %s: it stands %+v, not %+v", what, s, m.status())
	}
	for _, most := range []int{-1, 0, 1, 3, 1 << 20} {
		for _, from := range []uint64{0, m.base.Index, m.base.Index + 1, m.commit, m.last(), m.last() + 1} {
			var want []api.Entry
			for _, e := range m.row {
				if from > m.base.Index && e.Index >= from && len(want) < most {
					want = append(want, e)
				}
			}
			if got := n.Entries(from, most); !same(got, want) {
				t.Fatalf("17.6: %s: Entries(%d, %d): %s, not %s", what, from, most, short(got), short(want))
			}
		}
	}
	for _, i := range []uint64{0, m.base.Index - 1, m.base.Index, m.base.Index + 1, m.commit, m.last(), m.last() + 1, math.MaxUint64} {
		term, ok := n.Term(i)
		own, there := m.term(i)
		if set, _ := m.confAt(i); term != own || ok != there || n.ConfAt(i) != set {
			t.Fatalf("17.6: %s: of %d: Term %d %t, ConfAt %d, not %d %t, %d", what, i, term, ok, n.ConfAt(i), own, there, set)
		}
	}
}

// agreeOut fails where what was told is other than the model tells.
func agreeOut(t *testing.T, what string, o, want core.Out) {
	t.Helper()
	if o.Hard != want.Hard || !sameSnap(o.Snap, want.Snap) || o.Kept != want.Kept || o.From != want.From || !same(o.Entries, want.Entries) {
		t.Fatalf("17.7: %s: it tells %s, not %s", what, short(o), short(want))
	}
	if !slices.EqualFunc(o.Msgs, want.Msgs, sameMsg) {
		t.Fatalf("17: %s: it sends %s, not %s", what, short(o.Msgs), short(want.Msgs))
	}
}
