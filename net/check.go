package net

import (
	"hearsay/api"
	"hearsay/node"
	"hearsay/packet"
)

func (p *player) check() api.Errno {
	if len(p.Nodes) > api.MaxNodes || len(p.Letters) > api.MaxLetters {
		return api.ErrMany
	}
	if why := p.checkNodes(); why != api.OK {
		return why
	}
	return p.checkLetters()
}

func (p *player) checkNodes() api.Errno {
	names := make(map[string]int, len(p.Nodes))
	for _, n := range p.Nodes {
		if why := node.Check(n); why != api.OK {
			return why
		}
		names[n.Name]++
	}
	if len(names) < len(p.Nodes) {
		return api.ErrTwice
	}
	return api.OK
}

func (p *player) checkLetters() api.Errno {
	for _, l := range p.Letters {
		if !p.isNode(l.To) {
			return api.ErrRange
		}
		if _, why := packet.Read(l.Text); why != api.OK {
			return api.ErrForm
		}
	}
	return api.OK
}
