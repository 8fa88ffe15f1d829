package node

import (
	"fmt"
	"slices"
	"testing"

	"hearsay/api"
	"hearsay/catalog"
	"hearsay/centre"
	"hearsay/draw"
	"hearsay/fresh"
	"hearsay/member"
	"hearsay/packet"
)

// knowsAsMuch: J8: does a node know of all members, services and gateways of another one the same, or something newer?
func knowsAsMuch(n, than api.Node) bool {
	members, e := member.Join(n.Members, than.Members)
	services, f := catalog.Join(n.Services, than.Services)
	gateways, g := centre.Join(n.Gateways, than.Gateways)
	return e == api.OK && f == api.OK && g == api.OK && slices.Equal(members, n.Members) && slices.Equal(services, n.Services) && slices.Equal(gateways, n.Gateways)
}

// isWell: J8: is it a node that does not take itself for dead, and knows as much as it did?
func isWell(n, was api.Node) bool {
	me := slices.IndexFunc(n.Members, func(m api.Member) bool { return m.Name == n.Name })
	return Check(n) == api.OK && n.Name == was.Name && n.Centre == was.Centre && (n.Members[me].State == api.StateAlive || n.Members[me].State == api.StateLeft) && knowsAsMuch(n, was)
}

// something that happens to a node, or nothing.
func something(d *draw.Numbers, n, other api.Node) (api.Node, api.Errno) {
	name := fmt.Sprint("n", d.Below(6))
	id := fmt.Sprint("i", d.Below(3))
	switch d.Below(10) {
	case 0:
		return Doubt(n, name)
	case 1:
		return Bury(n, name)
	case 2:
		if d.Below(20) == 0 {
			return Leave(n)
		}
		return n, api.OK
	case 3:
		return Trace(n, name, api.Place{X: d.Below(1000), Sure: d.Below(1000)}, d.From(1, 1000))
	case 4:
		return Serve(n, api.Service{Node: n.Name, ID: id, Name: fmt.Sprint("s", d.Below(3)), Port: d.Below(9), Passing: d.Below(2) == 0})
	case 5:
		return Drop(n, id)
	case 6:
		return Open(n, d.Below(9))
	case 7, 8:
		_, p, _ := Tell(other)
		return Hear(n, p)
	}
	p, _ := Whole(other)
	return Hear(n, p)
}

func crowd(t *testing.T, many int) []api.Node {
	t.Helper()
	var l []api.Node
	for i := range many {
		n, e := New(fmt.Sprint("n", i), fmt.Sprint("c", i%3), i, i == 0)
		if e != api.OK {
			t.Fatalf("it is %d", e)
		}
		l = append(l, n)
	}
	return l
}

// J8: whatever happens, in whatever order, no node knows less than it did, and none takes itself for dead.
func TestNothingGetsOlder(t *testing.T) {
	d := new(draw.Numbers)
	for range 30 {
		nodes := crowd(t, 5)
		done := 0
		for range 300 {
			i, k := d.Below(5), d.Below(5)
			was := fresh.Node(nodes[i])
			next, e := something(d, nodes[i], nodes[k])
			if e != api.OK {
				fails(t, was, next, e, e)
				continue
			}
			if !isWell(next, was) || !same(nodes[i], was) {
				t.Fatalf("%v, and then %v", was, next)
			}
			nodes[i] = next
			done++
		}
		if done < 100 {
			t.Errorf("only %d things happened", done)
		}
	}
}

// J8: whole packets tell all: who hears one knows as much as who told it; by a text, too.
func TestWholePacketsTellAll(t *testing.T) {
	d := new(draw.Numbers)
	for range 200 {
		nodes := crowd(t, 4)
		for range 40 {
			i, k := d.Below(4), d.Below(4)
			if next, e := something(d, nodes[i], nodes[k]); e == api.OK {
				nodes[i] = next
			}
		}
		p, _ := Whole(nodes[0])
		text, _ := packet.Write(p)
		p, e := packet.Read(text)
		n, f := Hear(nodes[1], p)
		if e != api.OK || f != api.OK || !isWell(n, nodes[1]) || !knowsAsMuch(n, nodes[0]) {
			t.Fatalf("%v hears %v: it is %v %d %d", nodes[1], p, n, e, f)
		}
		for _, w := range nodes[0].Where {
			if !slices.ContainsFunc(n.Where, func(x api.Where) bool { return x.Node == w.Node }) {
				t.Fatalf("%v hears %v: it does not know of %v", nodes[1], p, w)
			}
		}
	}
}

// Rumors get round by telling alone, until none is told any more.
func TestRumorsGetRound(t *testing.T) {
	nodes := crowd(t, 6)
	for i := range nodes {
		p, _ := Whole(nodes[i])
		next := (i + 1) % len(nodes)
		nodes[next], _ = Hear(nodes[next], p)
	}
	for range 60 {
		for i := range nodes {
			next, p, e := Tell(nodes[i])
			nodes[i] = next
			for k := range nodes {
				heard, f := Hear(nodes[k], p)
				if e != api.OK || f != api.OK || k != i && !isWell(heard, nodes[k]) {
					t.Fatalf("%v hears %v: it is %v %d %d", nodes[k], p, heard, e, f)
				}
				nodes[k] = heard
			}
		}
	}
	for _, n := range nodes {
		if len(n.Members) != 6 || len(n.Rumors) != 0 || !slices.Equal(n.Members, nodes[0].Members) {
			t.Errorf("it is %v", n)
		}
	}
}

// The example of the document: who hears all of another one, and doubts it, tells that.
func TestDoubtIsTold(t *testing.T) {
	nodes := crowd(t, 2)
	p, _ := Whole(nodes[1])
	n, _ := Hear(nodes[0], p)
	n, e := Doubt(n, "n1")
	if _, p, f := Tell(n); !samePacket(p, api.Packet{From: "n0", Members: []api.Member{{Name: "n1", State: api.StateSuspect, Life: 1, Address: 1}}}) || e != api.OK || f != api.OK {
		t.Errorf("it is %v %d %d", p, e, f)
	}
}
