package node

import (
	"fmt"
	"slices"
	"strings"
	"testing"

	"hearsay/api"
	"hearsay/fresh"
	"hearsay/rumor"
)

// hearing is what comes of a packet of rumors.
func hearing(n api.Node, l ...api.Member) (api.Node, api.Errno) {
	return Hear(n, api.Packet{From: "other", Members: l})
}

// behind is base with a member of another node changed, and the rumor of it behind all others.
func behind(m api.Member) api.Node {
	return turned(func(n *api.Node) {
		n.Members = slices.DeleteFunc(n.Members, func(x api.Member) bool { return x.Name == m.Name })
		n.Rumors = slices.DeleteFunc(n.Rumors, func(r api.Rumor) bool { return r.Member.Name == m.Name })
		n.Members = append(n.Members, m)
		slices.SortFunc(n.Members, func(a, b api.Member) int { return strings.Compare(a.Name, b.Name) })
		n.Rumors = append(n.Rumors, api.Rumor{Member: m})
	})
}

// J2: what changes something is known, and told on behind all others, as if it had never been told; what is elder, or the same, changes nothing.
func TestSpread(t *testing.T) {
	for _, m := range []api.Member{
		one("b", 3, 1), one("b", 4, 1), one("b", 1, 2), {Name: "b", State: 2, Life: 1, Address: 23}, one("d", 1, 6), one("e", 1, 2), one("a", 2, 2), one("a", 1, 3),
		one("c", 1, 1), one("0", 3, 1), one("zz", 4, api.MaxLife), {Name: "q", State: 2, Life: 7, Address: maxAddress, Server: true},
	} {
		n, e := hearing(base(), m)
		becomes(t, m, n, e, behind(m))
		again, e := hearing(n, m)
		becomes(t, m, again, e, n)
	}
	for _, m := range []api.Member{
		one("b", 1, 1), one("b", 2, 1), {Name: "b", State: 2, Life: 1, Address: 22}, one("d", 4, 4), one("e", 3, 1), one("a", 4, 1), base().Members[0], base().Members[1],
		base().Members[4], one("me", 3, 2), one("me", 4, 2), one("me", 1, 3), {Name: "me", State: 1, Life: 3, Address: 25},
	} {
		n, e := hearing(base(), m)
		becomes(t, m, n, e, base())
	}
}

// J2: what is said of the node itself, and is newer, is refuted, by one more life than that; unless it says that it lives, or left.
func TestSpreadOfItself(t *testing.T) {
	for _, x := range []struct{ said, known api.Member }{
		{one("me", 2, 3), one("me", 1, 4)},
		{one("me", 3, 3), one("me", 1, 4)},
		{api.Member{Name: "me", State: 3, Life: 7, Address: 9, Server: true}, api.Member{Name: "me", State: 1, Life: 8, Address: 9, Server: true}},
		{one("me", 2, api.MaxLife-1), one("me", 1, api.MaxLife)},
		{one("me", 1, 4), one("me", 1, 4)},
		{one("me", 1, api.MaxLife), one("me", 1, api.MaxLife)},
		{one("me", 4, 3), one("me", 4, 3)},
		{one("me", 4, api.MaxLife), one("me", 4, api.MaxLife)},
		{api.Member{Name: "me", State: 1, Life: 3, Address: 26}, api.Member{Name: "me", State: 1, Life: 3, Address: 26}},
	} {
		n, e := hearing(base(), x.said)
		becomes(t, x.said, n, e, behind(x.known))
	}
}

// J2: one who left and hears that it is dead lives again: by the words of Refute.
func TestSpreadOfItselfBehindLeaving(t *testing.T) {
	left, e := Leave(base())
	for _, said := range []api.Member{one("me", 3, 4), one("me", 2, 3), one("me", 4, 4)} {
		n, e := hearing(left, said)
		becomes(t, said, n, e, left)
	}
	n, e := hearing(left, one("me", 3, 5))
	becomes(t, "dead by a greater life", n, e, behind(one("me", 1, 6)))
}

// J2, J4: with an error nothing changes, whatever was heard ahead of it.
func TestSpreadErrors(t *testing.T) {
	for _, m := range []api.Member{one("me", 3, api.MaxLife), one("me", 2, api.MaxLife)} {
		n, e := hearing(base(), m)
		fails(t, m, n, e, api.ErrRange)
		n, e = hearing(base(), one("c", 1, 1), m, one("f", 1, 1))
		fails(t, m, n, e, api.ErrRange)
	}
	for _, name := range []string{"a", "m1000", "z"} {
		n, e := hearing(full(), one("m101", 2, 5), one(name, 1, 1))
		fails(t, name, n, e, api.ErrMany)
	}
	n, e := hearing(full(), one("z", 1, 1), one("m100", 3, api.MaxLife))
	fails(t, "the first one of both", n, e, api.ErrMany)
	n, e = hearing(full(), one("m100", 3, api.MaxLife), one("z", 1, 1))
	fails(t, "the first one of both", n, e, api.ErrRange)
}

// J4: rumors are heard in their order, and so they are told on.
func TestHearRumorsInOrder(t *testing.T) {
	n, e := hearing(base(), one("zz", 1, 1), one("me", 2, 9), one("c", 1, 1), one("b", 1, 1), one("e", 1, 2))
	want := base()
	want.Members = []api.Member{want.Members[0], want.Members[1], one("c", 1, 1), want.Members[2], one("e", 1, 2), one("me", 1, 10), one("zz", 1, 1)}
	want.Rumors = []api.Rumor{want.Rumors[1], {Member: one("zz", 1, 1)}, {Member: one("me", 1, 10)}, {Member: one("c", 1, 1)}, {Member: one("e", 1, 2)}}
	becomes(t, "five", n, e, want)
	if _, p, _ := Tell(n); !samePacket(p, api.Packet{From: "me", Members: []api.Member{n.Members[1], n.Members[2], n.Members[4], n.Members[5], n.Members[6]}}) {
		t.Errorf("it tells %v", p)
	}
}

// A node that is full hears of whom it knows.
func TestHearWhenFull(t *testing.T) {
	for i := range 20 {
		m := one(fmt.Sprint("m", 100+i), 1, 6)
		n, e := hearing(full(), m)
		want := full()
		want.Members[i] = m
		want.Rumors = append(slices.Delete(want.Rumors, i, i+1), api.Rumor{Member: m})
		becomes(t, m, n, e, want)
	}
}

// living is a node that knows so many members, itself the first one, of which some are dead; and tells rumors of the last ones.
func living(members, dead int, rumors ...int) api.Node {
	n := api.Node{Name: "m00", Centre: "c"}
	for i := range members {
		m := one(fmt.Sprintf("m%02d", i), 1+i%2, 1)
		if i == 0 {
			m.State = api.StateAlive
		}
		if i >= members-dead {
			m.State = api.StateDead + i%2
		}
		n.Members = append(n.Members, m)
	}
	for i, told := range rumors {
		n.Rumors = append(n.Rumors, api.Rumor{Member: n.Members[members-len(rumors)+i], Told: told})
	}
	return n
}

// J3: a rumor is told as often as Times says of how many live; then it is not there any more.
func TestTellAsOftenAsTimesSays(t *testing.T) {
	for members := 1; members <= 20; members++ {
		for _, dead := range []int{0, 1, 5, members - 1} {
			if dead >= members {
				continue
			}
			n := living(members, dead, 0)
			want, _ := rumor.Times(members - dead)
			for i := range want {
				if len(n.Rumors) != 1 || n.Rumors[0].Told != i {
					t.Fatalf("%d of %d: behind %d times it is %v", members-dead, members, i, n.Rumors)
				}
				next, p, e := Tell(n)
				if !samePacket(p, api.Packet{From: "m00", Members: n.Members[members-1:]}) || e != api.OK || Check(next) != api.OK {
					t.Fatalf("%v: it is %v %v %d", n, next, p, e)
				}
				n = next
			}
			if next, p, e := Tell(n); len(n.Rumors) > 0 || !same(next, n) || !samePacket(p, api.Packet{From: "m00"}) || e != api.OK {
				t.Errorf("%d of %d: behind all it is %v %v %d", members-dead, members, next, p, e)
			}
		}
	}
}

// J3: where nobody lives, the node itself neither, each rumor is told once.
func TestTellOnceAtLeast(t *testing.T) {
	n := living(7, 6, 0, 0, 1, 0, 0, 9)
	n.Members[0].State = api.StateLeft
	next, p, e := Tell(n)
	want := slices.Clone(n.Members[1:6])
	if !samePacket(p, api.Packet{From: "m00", Members: want}) || e != api.OK || len(next.Rumors) != 0 {
		t.Errorf("it is %v %v %d", next, p, e)
	}
	n.Rumors[5].Told, n.Rumors[2].Told = 0, 0
	next, p, e = Tell(n)
	if want := n.Members[2:7]; !samePacket(p, api.Packet{From: "m00", Members: want}) || e != api.OK || !slices.Equal(next.Rumors, n.Rumors[:1]) {
		t.Errorf("the one that came first waits: it is %v %v %d", next, p, e)
	}
}

// J3: those that were told least often, of these the later ones; rising by name; and nothing of the node but its rumors changes.
func TestTellSomeAtMost(t *testing.T) {
	n := living(20, 0, 3, 0, 1, 0, 0, 1, 2, 0)
	n.Rumors[1], n.Rumors[7] = n.Rumors[7], n.Rumors[1]
	n.Services, n.Gateways, n.Place, n.Where = base().Services, base().Gateways, base().Place, base().Where
	want := fresh.Node(n)
	for _, at := range []int{1, 3, 4, 5, 7} {
		want.Rumors[at].Told++
	}
	next, p, e := Tell(n)
	becomes(t, n.Rumors, next, e, want)
	if members := []api.Member{n.Members[13], n.Members[15], n.Members[16], n.Members[17], n.Members[19]}; !samePacket(p, api.Packet{From: "m00", Members: members}) {
		t.Errorf("it is %v, and must be %v", p, members)
	}
}

// J5: as it was, but for its state.
func TestDoubtAndBury(t *testing.T) {
	m := base().Members[0]
	m.State = api.StateSuspect
	doubted, e := Doubt(base(), "a")
	becomes(t, "doubted", doubted, e, behind(m))
	m.State = api.StateDead
	buried, e := Bury(doubted, "a")
	becomes(t, "buried", buried, e, behind(m))
	m = base().Members[1]
	m.State = api.StateDead
	buried, e = Bury(base(), "b")
	becomes(t, "buried", buried, e, behind(m))
}

// J5: ErrForm, ErrNone, ErrTwice, and then ErrState.
func TestDoubtAndBuryErrors(t *testing.T) {
	left, _ := Leave(base())
	for _, n := range []api.Node{base(), left} {
		whys := map[string][2]api.Errno{
			"q": {api.ErrNone, api.ErrNone}, "m": {api.ErrNone, api.ErrNone}, "mee": {api.ErrNone, api.ErrNone}, long: {api.ErrNone, api.ErrNone},
			"me": {api.ErrTwice, api.ErrTwice}, "a": {api.OK, api.ErrState}, "b": {api.ErrState, api.OK}, "d": {api.ErrState, api.ErrState}, "e": {api.ErrState, api.ErrState},
		}
		for _, text := range noLabels() {
			whys[text] = [2]api.Errno{api.ErrForm, api.ErrForm}
		}
		for name, why := range whys {
			if x, e := Doubt(n, name); why[0] != api.OK || e != api.OK {
				fails(t, name, x, e, why[0])
			}
			if x, e := Bury(n, name); why[1] != api.OK || e != api.OK {
				fails(t, name, x, e, why[1])
			}
		}
	}
}

// J5: by one more life, as it was but for its state; once.
func TestLeave(t *testing.T) {
	n, e := Leave(base())
	becomes(t, "left", n, e, behind(api.Member{Name: "me", State: api.StateLeft, Life: 4, Address: 25, Server: true}))
	again, e := Leave(n)
	fails(t, "it has left", again, e, api.ErrState)
	for life, why := range map[int]api.Errno{api.MaxLife - 1: api.OK, api.MaxLife: api.ErrRange} {
		last := turned(func(n *api.Node) { n.Members[4].Life = life })
		if n, e := Leave(last); why != api.OK || e != api.OK {
			fails(t, life, n, e, why)
		}
		last.Members[4].State = api.StateLeft
		n, e := Leave(last)
		fails(t, "it has left", n, e, api.ErrState)
	}
}
