package core

import (
	"bursar/api"
	"bursar/member"
)

// Tick moves the clock of the node on.
func (n *Core) Tick(draw uint64) {
	if n.role == api.Leader {
		n.beat()
		return
	}
	n.elapsed = min(n.elapsed+1, api.MaxTicks)
	if n.elapsed >= n.limit && n.eligible() && n.hard.Term < api.MaxNumber && n.log.Last() < api.MaxNumber {
		n.canvass(draw)
	}
}

// beat moves the clock of a leader on.
func (n *Core) beat() {
	n.elapsed++
	if n.elapsed >= n.c.Beat {
		n.elapsed = 0
		n.sendAll()
	}
}

// eligible tells whether the node may lead: it is a member, or it was one until a change
// of which it does not know yet whether it holds.
func (n *Core) eligible() bool {
	set, at := n.log.Conf()
	return member.Has(set, n.id) || at > n.commit && member.Has(n.log.ConfAt(at-1), n.id)
}

// canvass begins to ask who would vote for the node. Its term stays, so that a node that
// is cut off disturbs nobody when it comes back.
func (n *Core) canvass(draw uint64) {
	n.canvassing = true
	n.lead, n.role = 0, api.Follower
	n.taker.Clear()
	n.elapsed = 0
	n.setLimit(draw)
	if n.votesOfOwn() {
		n.stand()
		return
	}
	n.ask(n.hard.Term+1, false)
}

// stand begins a term in which the node asks for votes.
func (n *Core) stand() {
	n.canvassing = false
	n.hard = api.Hard{Term: n.hard.Term + 1, Vote: n.id}
	n.role = api.Candidate
	if n.votesOfOwn() {
		n.begin()
		return
	}
	n.ask(n.hard.Term, true)
}

// votesOfOwn begins to collect votes, with that of the node itself, and tells whether it
// is enough.
func (n *Core) votesOfOwn() bool {
	n.votes = 0
	return n.voted(n.id)
}

// voted adds the vote of a node, and tells whether they are more than half.
func (n *Core) voted(node int) bool {
	n.votes |= 1 << node
	return member.Most(n.conf(), n.votes)
}

// ask asks the other members for their votes in a term; last tells whether these count.
func (n *Core) ask(term uint64, last bool) {
	index := n.log.Last()
	logTerm, _ := n.log.Term(index)
	for p := range member.All(n.others()) {
		n.tell(p, api.Msg{Kind: api.MsgVote, Term: term, Index: index, LogTerm: logTerm, Last: last})
	}
}
