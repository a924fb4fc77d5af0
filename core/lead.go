package core

import (
	"bursar/api"
	"bursar/chunk"
	"bursar/member"
)

// Propose lays a command at the end of the log of a leader, and answers its index.
func (n *Core) Propose(data []byte) (uint64, api.Errno) {
	switch {
	case n.role != api.Leader:
		return 0, api.ErrLeader
	case len(data) < 1 || len(data) > api.MaxData:
		return 0, api.ErrArg
	case n.full():
		return 0, api.ErrFull
	}
	index := n.lay(api.Entry{Kind: api.EntryCmd, Data: data})
	n.sendAll()
	n.count()
	return index, api.OK
}

// Change lays the members with one node more or less at the end of the log of a leader,
// and answers the index. They hold from then on, committed or not.
func (n *Core) Change(add bool, node int) (uint64, api.Errno) {
	switch {
	case n.role != api.Leader:
		return 0, api.ErrLeader
	case n.changes():
		return 0, api.ErrBusy
	case node < 1 || node > n.c.Nodes:
		return 0, api.ErrArg
	}
	set, e := n.changed(add, node)
	if e != api.OK {
		return 0, e
	}
	if n.full() {
		return 0, api.ErrFull
	}
	index := n.lay(api.Entry{Kind: api.EntryConf, Conf: set})
	if add {
		n.peers[node] = peer{next: index}
	}
	n.sendAll()
	n.count()
	return index, api.OK
}

// changes tells whether a change of the members has to wait: the one before is not
// committed, or nothing of the leader's term is, so that it may not know of one.
func (n *Core) changes() bool {
	_, at := n.log.Conf()
	term, _ := n.log.Term(n.commit)
	return at > n.commit || term != n.hard.Term
}

// changed answers the members with one node more or less.
func (n *Core) changed(add bool, node int) (int, api.Errno) {
	if add {
		return member.Add(n.conf(), node)
	}
	return member.Remove(n.conf(), node)
}

// full tells whether the log has no room for another entry.
func (n *Core) full() bool {
	return n.log.Len() >= n.c.Log || n.log.Last() >= api.MaxNumber
}

// begin makes the node the leader of its term.
func (n *Core) begin() {
	n.role, n.lead, n.elapsed = api.Leader, n.id, 0
	for p := range n.peers {
		n.peers[p] = peer{next: n.log.Last() + 1}
	}
	n.lay(api.Entry{Kind: api.EntryNone})
	n.sendAll()
	n.count()
}

// lay puts an entry of the node's term at the end of its log, and answers its index.
func (n *Core) lay(x api.Entry) uint64 {
	x.Term, x.Index = n.hard.Term, n.log.Last()+1
	if n.log.Append(x) == api.OK {
		n.note(x.Index)
	}
	return x.Index
}

// others answers the members but for the node itself.
func (n *Core) others() int { return n.conf() &^ (1 << n.id) }

// sendAll sends to all other members.
func (n *Core) sendAll() {
	for p := range member.All(n.others()) {
		n.send(p)
	}
}

// send sends to a node what it needs next: entries, or a piece of the snapshot where the
// log begins behind them.
func (n *Core) send(p int) {
	at := n.peers[p]
	base := n.log.Base()
	if at.next <= base.Index {
		part, last, _ := chunk.Cut(n.image, at.offset)
		n.tell(p, api.Msg{Kind: api.MsgSnap, Term: n.hard.Term, Base: base, Offset: at.offset, Data: part, Last: last})
		return
	}
	term, _ := n.log.Term(at.next - 1)
	n.tell(p, api.Msg{
		Kind: api.MsgAppend, Term: n.hard.Term, Index: at.next - 1, LogTerm: term, Commit: n.commit,
		Entries: n.log.Entries(at.next, api.MaxBatch),
	})
}

// count commits what more than half of the members have. An entry of an earlier term is
// only committed with one of the own term behind it: else a later leader could lack it.
func (n *Core) count() {
	set, at := n.log.Conf()
	i := member.Index(set, n.matches()...)
	if term, _ := n.log.Term(i); i > n.commit && term == n.hard.Term {
		n.commit = i
	}
	if at <= n.commit && !member.Has(set, n.id) {
		n.role, n.lead = api.Follower, 0
	}
}

// matches answers up to where each node has the log.
func (n *Core) matches() []uint64 {
	l := make([]uint64, len(n.peers))
	for p := range l {
		l[p] = n.peers[p].match
	}
	l[n.id] = n.log.Last()
	return l
}

// onAppendReply takes what a node says of the entries that it was sent.
func (n *Core) onAppendReply(m api.Msg) {
	if n.role != api.Leader || m.Index > n.log.Last() {
		return
	}
	p := &n.peers[m.From]
	switch {
	case m.Refused:
		p.next = max(p.match, m.Index) + 1
		n.send(m.From)
	case m.Index > p.match:
		n.matched(m.From, m.Index)
	}
}

// matched takes that a node has the log up to an index.
func (n *Core) matched(node int, index uint64) {
	p := &n.peers[node]
	p.match = index
	n.count()
	if p.next < index+1 {
		p.next, p.offset = index+1, 0
	}
	if n.role == api.Leader && index < n.log.Last() {
		n.send(node)
	}
}

// onSnapReply takes what a node says of the snapshot that it was sent.
func (n *Core) onSnapReply(m api.Msg) {
	p := &n.peers[m.From]
	if n.role != api.Leader || m.Base != n.log.Base() || p.next > m.Base.Index || m.Offset > len(n.image) {
		return
	}
	p.offset = m.Offset
	n.send(m.From)
}
