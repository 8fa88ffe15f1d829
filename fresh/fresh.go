// Package fresh makes copies that share no memory with what they are of: whoever changes one changes nothing else.
package fresh

import (
	"slices"

	"hearsay/api"
)

// Node that is as another one.
func Node(n api.Node) api.Node {
	n.Members = slices.Clone(n.Members)
	n.Rumors = slices.Clone(n.Rumors)
	n.Services = slices.Clone(n.Services)
	n.Gateways = slices.Clone(n.Gateways)
	n.Where = slices.Clone(n.Where)
	return n
}
