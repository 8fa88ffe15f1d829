package net

import (
	"fmt"
	"slices"
	"testing"

	"hearsay/api"
	"hearsay/catalog"
	"hearsay/centre"
	"hearsay/draw"
	"hearsay/member"
	"hearsay/place"
)

// story is a net to which things happen that are drawn, and what was said to happen, kept by itself.
type story struct {
	api.Net
	*draw.Numbers
	last       map[[2]string]api.Service // by node and id
	registered map[api.Service]int
	opened     map[api.Gateway]int // without versions
	left       map[string]int
	done       map[int]int // how often, by kind
}

func begin(t testing.TB, d *draw.Numbers, many int) *story {
	t.Helper()
	return &story{apart(t, many), d, map[[2]string]api.Service{}, map[api.Service]int{}, map[api.Gateway]int{}, map[string]int{}, map[int]int{}}
}

// event that is drawn: most of them may happen.
func (s *story) event() api.Event {
	e := api.Event{Kind: s.From(api.EventTell, api.EventOpen), Which: s.Below(len(s.Nodes)), Other: s.Below(len(s.Nodes)), N: s.Below(1000)}
	switch e.Kind {
	case api.EventCome, api.EventLose, api.EventTwice:
		e.Which = s.Below(len(s.Letters) + 1)
	case api.EventDoubt, api.EventBury:
		e.Name = s.Nodes[s.Below(len(s.Nodes))].Name
	case api.EventDrop:
		e.Name = fmt.Sprint("i", s.Below(3))
	case api.EventTrace:
		e.Place = api.Place{X: s.far(), Y: s.far(), Z: s.far(), Height: s.Below(api.MaxHeight + 1), Sure: s.Below(api.MaxSure + 1)}
		e.N = s.From(1, []int{100, 1000, api.MaxRound}[s.Below(3)])
	case api.EventServe:
		e.Service = api.Service{Node: s.Nodes[e.Which].Name, ID: fmt.Sprint("i", s.Below(3)), Name: fmt.Sprint("s", s.Below(2)), Tag: []string{"", "t"}[s.Below(2)], Address: s.Below(9), Port: s.Below(9), Passing: s.Below(4) > 0}
	}
	return e
}

func (s *story) far() int {
	most := []int{10, 1000, api.MaxPlace}[s.Below(3)]
	return s.From(-most, most)
}

// happen: what comes of an event is a net, or nothing; what was said in it is kept.
func (s *story) happen(t testing.TB, e api.Event) {
	t.Helper()
	was := copied(s.Net)
	next, why := Step(s.Net, e)
	if !same(s.Net, was) || why != api.OK && !same(next, api.Net{}) {
		t.Fatalf("%v: it is %v %d, and %v was %v", e, next, why, s.Net, was)
	}
	if why != api.OK {
		return
	}
	s.Net = next
	s.done[e.Kind]++
	s.keep(e)
	s.isWell(t, e, was)
}

func (s *story) keep(e api.Event) {
	who := func() api.Node { return s.Nodes[e.Which] }
	switch e.Kind {
	case api.EventServe:
		e.Service.Version, e.Service.Gone = s.last[[2]string{who().Name, e.Service.ID}].Version+1, false
		s.register(e.Service)
	case api.EventDrop:
		gone := s.last[[2]string{who().Name, e.Name}]
		gone.Version, gone.Gone = gone.Version+1, true
		s.register(gone)
	case api.EventOpen:
		s.opened[api.Gateway{Centre: who().Centre, Address: e.N}]++
	case api.EventLeave:
		s.left[who().Name]++
	}
}

func (s *story) register(one api.Service) {
	s.last[[2]string{one.Node, one.ID}] = one
	s.registered[one]++
}

// isWell: K4: is it a net in which nobody's knowledge got older, and no service is known that its node did not register?
func (s *story) isWell(t testing.TB, e api.Event, was api.Net) {
	t.Helper()
	if why := Check(s.Net); why != api.OK {
		t.Fatalf("%v: %v: it is %d", e, s.Net, why)
	}
	for i, n := range s.Nodes {
		if n.Name != was.Nodes[i].Name || n.Centre != was.Nodes[i].Centre || !knowsAsMuch(n, was.Nodes[i]) {
			t.Fatalf("%v: %v, and then %v", e, was.Nodes[i], n)
		}
		for _, known := range n.Services {
			if s.registered[known] == 0 {
				t.Fatalf("%v: nobody registered %v", e, known)
			}
		}
		for _, known := range n.Gateways {
			if s.opened[api.Gateway{Centre: known.Centre, Address: known.Address}] == 0 {
				t.Fatalf("%v: nobody opened %v", e, known)
			}
		}
		if place.Check(n.Place) != api.OK || slices.ContainsFunc(n.Where, func(w api.Where) bool { return place.Check(w.Place) != api.OK }) {
			t.Fatalf("%v: beyond its bounds: %v", e, n)
		}
	}
}

// knowsAsMuch: does a node know of all members, services and gateways of another one the same, or something newer?
func knowsAsMuch(n, than api.Node) bool {
	members, e := member.Join(n.Members, than.Members)
	services, f := catalog.Join(n.Services, than.Services)
	gateways, g := centre.Join(n.Gateways, than.Gateways)
	return e == api.OK && f == api.OK && g == api.OK && slices.Equal(members, n.Members) && slices.Equal(services, n.Services) && slices.Equal(gateways, n.Gateways)
}

// tells: a whole packet of one comes to another one, ahead of all that is on its way.
func (s *story) tells(t testing.TB, which, other int) {
	t.Helper()
	s.happen(t, api.Event{Kind: api.EventWhole, Which: which, Other: other})
	s.happen(t, api.Event{Kind: api.EventCome, Which: len(s.Letters) - 1})
}

// tellAll: each tells all it knows to each, in an order that is drawn.
func (s *story) tellAll(t testing.TB) {
	t.Helper()
	var pairs [][2]int
	for a := range s.Nodes {
		for b := range s.Nodes {
			pairs = append(pairs, [2]int{a, b})
		}
	}
	for i := range pairs {
		k := s.From(i, len(pairs)-1)
		pairs[i], pairs[k] = pairs[k], pairs[i]
		s.tells(t, pairs[i][0], pairs[i][1])
	}
}

// playOn for so many events; who leaves does so seldom, else all would soon have left.
func (s *story) playOn(t testing.TB, long int) {
	t.Helper()
	for range long {
		if e := s.event(); e.Kind != api.EventLeave || s.Below(20) == 0 {
			s.happen(t, e)
		}
	}
}

// allAgree: K4: all agree; who left is known to have, and all others live.
func (s *story) allAgree(t testing.TB) {
	t.Helper()
	if ok, e := Agree(s.Net); !ok || e != api.OK {
		t.Fatalf("it is %v %d: %v", ok, e, s.Net)
	}
	for _, n := range s.Nodes {
		for _, m := range n.Members {
			if want := min(1, s.left[m.Name])*(api.StateLeft-api.StateAlive) + api.StateAlive; m.State != want {
				t.Fatalf("%v, and must be in state %d: %v", m, want, s.Net)
			}
		}
		if len(n.Members) != len(s.Nodes) {
			t.Fatalf("not all are known: %v", n)
		}
	}
}

// K4: whatever happens: nobody's knowledge gets older, and nothing is known that was not said; and then all agree, and nobody who did not leave is taken for dead. What is late then changes nothing any more.
func TestWhateverHappens(t *testing.T) {
	d := new(draw.Numbers)
	done := make(map[int]int)
	doubted := 0
	for i := range 150 {
		s := begin(t, d, i%api.MaxNodes+1)
		s.playOn(t, d.Below(300))
		if len(s.Letters) == api.MaxLetters {
			s.happen(t, api.Event{Kind: api.EventLose, Which: d.Below(api.MaxLetters)})
		}
		doubted += s.doubted()
		for range 3 {
			s.tellAll(t)
		}
		s.allAgree(t)
		was := s.Nodes[0]
		for many := len(s.Letters); many > 0; many-- {
			s.happen(t, api.Event{Kind: api.EventCome, Which: d.Below(many)})
		}
		s.allAgree(t)
		if !knowTheSame(s.Nodes[0], was) {
			t.Fatalf("%v, and then %v", was, s.Nodes[0])
		}
		for kind, often := range s.done {
			done[kind] += often
		}
	}
	for kind := api.EventTell; kind <= api.EventOpen; kind++ {
		if done[kind] < 20 {
			t.Errorf("%d happened %d times", kind, done[kind])
		}
	}
	if doubted < 50 {
		t.Errorf("only %d were doubted, or taken for dead", doubted)
	}
}

// doubted: how often somebody takes somebody for dead, or doubts that it lives?
func (s *story) doubted() int {
	many := 0
	for _, n := range s.Nodes {
		for _, m := range n.Members {
			if m.State == api.StateSuspect || m.State == api.StateDead {
				many++
			}
		}
	}
	return many
}

// By rumors alone, all of whose letters come, all get to know of each other, until nothing is told any more.
func TestRumorsGetRound(t *testing.T) {
	s := begin(t, new(draw.Numbers), api.MaxNodes)
	for i := range s.Nodes {
		s.tells(t, i, (i+1)%len(s.Nodes))
	}
	for range 60 {
		for i := range s.Nodes {
			for k := range s.Nodes {
				s.happen(t, api.Event{Kind: api.EventTell, Which: i, Other: k})
				s.happen(t, api.Event{Kind: api.EventCome})
			}
		}
	}
	s.allAgree(t)
	for _, n := range s.Nodes {
		if len(n.Rumors) != 0 {
			t.Errorf("it is %v", n)
		}
	}
}

// K4: who is taken for dead by all, and hears of that late, is alive again for all; who left stays so, whatever comes late.
func TestDeadAndLeft(t *testing.T) {
	s := begin(t, new(draw.Numbers), 3)
	s.tellAll(t)
	s.tells(t, 0, 1)
	s.tells(t, 0, 2)
	s.happen(t, api.Event{Kind: api.EventWhole, Which: 1, Other: 2}) // it tells that n1 and n2 live, and is late
	for _, name := range []string{"n1", "n2"} {
		s.happen(t, api.Event{Kind: api.EventDoubt, Which: 0, Name: name})
		s.happen(t, api.Event{Kind: api.EventBury, Which: 0, Name: name})
	}
	s.happen(t, api.Event{Kind: api.EventLeave, Which: 2})
	for range 3 {
		s.tellAll(t)
	}
	s.happen(t, api.Event{Kind: api.EventCome})
	s.allAgree(t)
	want := []api.Member{{Name: "n0", State: api.StateAlive, Life: 1, Server: true}, {Name: "n1", State: api.StateAlive, Life: 2, Address: 1}, {Name: "n2", State: api.StateLeft, Life: 2, Address: 2}}
	if !slices.Equal(s.Nodes[0].Members, want) {
		t.Errorf("it is %v, and must be %v", s.Nodes[0].Members, want)
	}
}

// P1, P3: whatever event comes, a net comes that is right, or an error without one; and the same each time.
func TestWildEvents(t *testing.T) {
	d := new(draw.Numbers)
	words := []string{"", "n0", "n1", "n2", "i0", "A", "."}
	for range 20 {
		s := begin(t, d, d.From(0, 3))
		for range 300 {
			e := api.Event{Kind: d.From(-1, 14), Which: d.From(-2, 7), Other: d.From(-2, 7), N: d.From(-1, 3), Name: words[d.Below(7)]}
			e.Place = api.Place{X: d.From(-1, 1) * (api.MaxPlace + d.Below(2)), Sure: d.From(-1, 1)}
			e.Service = api.Service{Node: words[d.Below(7)], ID: words[d.Below(7)], Name: words[d.Below(7)], Port: d.From(-1, 3)}
			next, why := Step(s.Net, e)
			again, f := Step(s.Net, e)
			if !same(next, again) || why != f || why < api.OK || why > api.ErrKind {
				t.Fatalf("%v: it is %v %d, then %v %d", e, next, why, again, f)
			}
			s.happen(t, e)
		}
	}
}
