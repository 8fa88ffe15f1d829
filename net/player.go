package net

import (
	"slices"

	"hearsay/api"
	"hearsay/fresh"
	"hearsay/node"
	"hearsay/packet"
	"hearsay/rule"
)

// player plays an event of a net. All but check count on what that has checked: what a node tells can be written then, and each letter be read.
type player struct {
	api.Net
	api.Event
}

func copied(n api.Net) api.Net {
	nodes := make([]api.Node, len(n.Nodes))
	for i, one := range n.Nodes {
		nodes[i] = fresh.Node(one)
	}
	return api.Net{Nodes: nodes, Letters: slices.Clone(n.Letters)}
}

func (p *player) play() api.Errno {
	happen, known := p.happenings()[p.Kind]
	switch {
	case !known:
		return api.ErrKind
	case !p.isThere():
		return api.ErrNone
	}
	return happen()
}

// happenings by the kinds of events.
func (p *player) happenings() map[int]func() api.Errno {
	return map[int]func() api.Errno{
		api.EventTell:  p.tell,
		api.EventWhole: p.tellAll,
		api.EventCome:  p.come,
		api.EventLose:  p.lose,
		api.EventTwice: p.repeat,
		api.EventDoubt: func() api.Errno { return p.become(node.Doubt(p.who(), p.Name)) },
		api.EventBury:  func() api.Errno { return p.become(node.Bury(p.who(), p.Name)) },
		api.EventLeave: func() api.Errno { return p.become(node.Leave(p.who())) },
		api.EventTrace: func() api.Errno { return p.become(node.Trace(p.who(), p.Nodes[p.Other].Name, p.Place, p.N)) },
		api.EventServe: func() api.Errno { return p.become(node.Serve(p.who(), p.Service)) },
		api.EventDrop:  func() api.Errno { return p.become(node.Drop(p.who(), p.Name)) },
		api.EventOpen:  func() api.Errno { return p.become(node.Open(p.who(), p.N)) },
	}
}

// isThere: are all nodes, or the letter, of which the event tells?
func (p *player) isThere() bool {
	switch p.Kind {
	case api.EventCome, api.EventLose, api.EventTwice:
		return rule.Within(p.Which, 0, len(p.Letters)-1)
	case api.EventTell, api.EventWhole, api.EventTrace:
		return p.isNode(p.Which) && p.isNode(p.Other)
	}
	return p.isNode(p.Which)
}

func (p *player) isNode(at int) bool { return rule.Within(at, 0, len(p.Nodes)-1) }

// who it happens to.
func (p *player) who() api.Node { return p.Nodes[p.Which] }

// become what a call made of the node, unless that has an error.
func (p *player) become(next api.Node, why api.Errno) api.Errno {
	if why == api.OK {
		p.Nodes[p.Which] = next
	}
	return why
}

func (p *player) tell() api.Errno {
	next, told, _ := node.Tell(p.who())
	p.Nodes[p.Which] = next
	return p.write(told)
}

func (p *player) tellAll() api.Errno {
	told, _ := node.Whole(p.who())
	return p.write(told)
}

func (p *player) write(told api.Packet) api.Errno {
	text, _ := packet.Write(told)
	return p.send(api.Letter{To: p.Other, Text: text})
}

func (p *player) send(l api.Letter) api.Errno {
	if len(p.Letters) == api.MaxLetters {
		return api.ErrMany
	}
	p.Letters = append(p.Letters, l)
	return api.OK
}

func (p *player) repeat() api.Errno { return p.send(p.Letters[p.Which]) }

func (p *player) lose() api.Errno {
	p.Letters = slices.Delete(p.Letters, p.Which, p.Which+1)
	return api.OK
}

// come: a node that cannot take in what it hears stays as it is, but the letter has come all the same.
func (p *player) come() api.Errno {
	l := p.Letters[p.Which]
	heard, _ := packet.Read(l.Text)
	if next, why := node.Hear(p.Nodes[l.To], heard); why == api.OK {
		p.Nodes[l.To] = next
	}
	return p.lose()
}
