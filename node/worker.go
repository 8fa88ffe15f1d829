package node

import (
	"slices"

	"hearsay/api"
	"hearsay/fresh"
)

// worker works on a node: what that has is its own.
type worker struct {
	api.Node
}

// work lets a worker change a copy of a node: behind an error nothing of it is left.
func work(n api.Node, change func(w *worker) api.Errno) (api.Node, api.Errno) {
	if why := Check(n); why != api.OK {
		return api.Node{}, why
	}
	w := &worker{fresh.Node(n)}
	if why := change(w); why != api.OK {
		return api.Node{}, why
	}
	return w.Node, api.OK
}

func (w *worker) member(name string) (api.Member, bool) {
	isIt := func(m api.Member) bool { return m.Name == name }
	at := slices.IndexFunc(w.Members, isIt)
	if at < 0 {
		return api.Member{}, false
	}
	return w.Members[at], true
}
