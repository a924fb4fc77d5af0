package core

import (
	"bursar/api"
	"bursar/rpc"
)

// Step takes a message.
func (n *Core) Step(m api.Msg, draw uint64) api.Errno {
	if !rpc.Right(m) || m.To != n.id || m.From > n.c.Nodes {
		return api.ErrArg
	}
	switch {
	case asks(m):
		n.onAsked(m)
	case advises(m):
		n.onAdvice(m)
	case n.disturbs(m):
		// Whoever sent it has not heard of a leader that is heard here: it waits.
	case n.isNew(m):
		n.follow(m.Term)
		n.onSame(m, draw)
	case n.isOld(m):
		n.onOld(m)
	default:
		n.onSame(m, draw)
	}
	return api.OK
}

// asks tells whether a message asks who would vote, ahead of a vote.
func asks(m api.Msg) bool { return m.Kind == api.MsgVote && !m.Last }

// advises tells whether a message answers one that asks who would vote.
func advises(m api.Msg) bool { return m.Kind == api.MsgVoteReply && !m.Last }

// disturbs tells whether a message asks for a vote in a greater term, though the node is led.
func (n *Core) disturbs(m api.Msg) bool {
	return m.Kind == api.MsgVote && n.isNew(m) && n.isLed()
}

// isNew tells whether a message is of a greater term.
func (n *Core) isNew(m api.Msg) bool { return m.Term > n.hard.Term }

// isOld tells whether a message is of a lower term.
func (n *Core) isOld(m api.Msg) bool { return m.Term < n.hard.Term }

// isLed tells whether the node leads, or has heard of a leader not long ago.
func (n *Core) isLed() bool {
	return n.role == api.Leader || n.lead != 0 && n.elapsed < n.c.Low
}

// onSame takes a message of the node's own term.
func (n *Core) onSame(m api.Msg, draw uint64) {
	switch m.Kind {
	case api.MsgVote:
		n.onVote(m, draw)
	case api.MsgVoteReply:
		n.onVoteReply(m)
	case api.MsgAppend:
		n.onAppend(m)
	case api.MsgAppendReply:
		n.onAppendReply(m)
	case api.MsgSnap:
		n.onSnap(m)
	case api.MsgSnapReply:
		n.onSnapReply(m)
	}
}

// onOld tells one who is behind which term it is.
func (n *Core) onOld(m api.Msg) {
	switch m.Kind {
	case api.MsgVote:
		n.reply(m, api.Msg{Kind: api.MsgVoteReply, Refused: true, Last: true})
	case api.MsgAppend, api.MsgSnap:
		n.reply(m, api.Msg{Kind: api.MsgAppendReply, Refused: true})
	}
}

// onAsked tells one who canvasses whether the node would vote for it; it changes nothing.
func (n *Core) onAsked(m api.Msg) {
	if n.isNew(m) && !n.isLed() && n.log.Good(m.Index, m.LogTerm) {
		n.tell(m.From, api.Msg{Kind: api.MsgVoteReply, Term: m.Term})
		return
	}
	n.reply(m, api.Msg{Kind: api.MsgVoteReply, Refused: true})
}

// onAdvice takes what another node says it would do.
func (n *Core) onAdvice(m api.Msg) {
	switch {
	case m.Refused && n.isNew(m):
		n.follow(m.Term)
	case !m.Refused && n.canvassing && m.Term == n.hard.Term+1 && n.voted(m.From):
		n.stand()
	}
}

// onVote votes for one who asks for it, or not.
func (n *Core) onVote(m api.Msg, draw uint64) {
	free := n.hard.Vote == m.From || n.hard.Vote == 0 && n.lead == 0
	if !free || !n.log.Good(m.Index, m.LogTerm) {
		n.reply(m, api.Msg{Kind: api.MsgVoteReply, Refused: true, Last: true})
		return
	}
	n.hard.Vote = m.From
	n.canvassing = false
	n.elapsed = 0
	n.setLimit(draw)
	n.reply(m, api.Msg{Kind: api.MsgVoteReply, Last: true})
}

// onVoteReply takes a vote.
func (n *Core) onVoteReply(m api.Msg) {
	if n.role == api.Candidate && !m.Refused && n.voted(m.From) {
		n.begin()
	}
}

// onAppend takes entries of the leader.
func (n *Core) onAppend(m api.Msg) {
	if !n.obeys(m.From) {
		return
	}
	if m.Index < n.commit {
		n.reply(m, api.Msg{Kind: api.MsgAppendReply, Index: n.commit})
		return
	}
	from, ok := n.log.Put(m.Index, m.LogTerm, m.Entries)
	if !ok {
		before := max(m.Index, 1) - 1
		n.reply(m, api.Msg{Kind: api.MsgAppendReply, Refused: true, Index: min(n.log.Last(), before)})
		return
	}
	n.note(from)
	top := m.Index + uint64(len(m.Entries))
	n.commit = max(n.commit, min(m.Commit, top))
	n.reply(m, api.Msg{Kind: api.MsgAppendReply, Index: top})
}

// onSnap takes a piece of the snapshot of the leader.
func (n *Core) onSnap(m api.Msg) {
	if !n.obeys(m.From) {
		return
	}
	if m.Base.Index <= n.commit {
		n.reply(m, api.Msg{Kind: api.MsgAppendReply, Index: n.commit})
		return
	}
	done, have := n.taker.Take(m.Base, m.Offset, m.Data, m.Last)
	if !done {
		n.reply(m, api.Msg{Kind: api.MsgSnapReply, Base: m.Base, Offset: have})
		return
	}
	n.restore(m.Base)
	n.reply(m, api.Msg{Kind: api.MsgAppendReply, Index: m.Base.Index})
}

// restore makes the snapshot whose pieces came that of the node.
func (n *Core) restore(base api.Base) {
	n.image = n.taker.Data()
	n.taker.Clear()
	n.out.Snap = api.Snap{Base: base, Data: n.image}
	n.out.Kept = n.log.Restore(base)
	n.commit = base.Index
}

// obeys makes the node a follower of the leader of its term, and tells whether it may be
// one: a leader knows of no other in its term.
func (n *Core) obeys(lead int) bool {
	if n.role == api.Leader {
		return false
	}
	n.role, n.lead, n.canvassing, n.elapsed = api.Follower, lead, false, 0
	return true
}

// reply answers a message, in the term of the node.
func (n *Core) reply(to api.Msg, m api.Msg) {
	m.Term = n.hard.Term
	n.tell(to.From, m)
}
