package node

import (
	"testing"

	"hearsay/answer"
	"hearsay/api"
	"hearsay/dns"
)

// asking is a message that asks for the address of a name.
func asking(t testing.TB, name string) string {
	t.Helper()
	return written(t, api.Message{ID: 258, Question: api.Question{Name: name, Type: api.TypeAddress}})
}

func written(t testing.TB, m api.Message) string {
	t.Helper()
	s, e := dns.Write(m)
	if e != api.OK {
		t.Fatalf("%v: it is %d", m, e)
	}
	return s
}

// answersItself: J7: is it the reply of Reply, and goes nowhere?
func answersItself(t *testing.T, n api.Node, text string) {
	t.Helper()
	want, _, e := answer.Reply(text, n.Centre, n.Services, n.Members, n.Place, n.Where)
	if e != api.OK {
		t.Fatalf("it is %d", e)
	}
	if s, to, ok, e := Ask(n, text); s != want || to != 0 || ok || e != api.OK {
		t.Errorf("%q: it is %q %d %v %d, and must be %q", text, s, to, ok, e, want)
	}
}

// goesOn: J7: is it the message as it is, and the address of a gateway?
func goesOn(t *testing.T, n api.Node, text string, address int) {
	t.Helper()
	if s, to, ok, e := Ask(n, text); s != text || to != address || !ok || e != api.OK {
		t.Errorf("%q: it is %q %d %v %d, and must be %d", text, s, to, ok, e, address)
	}
}

// J7: what is asked for here, or of a centre without a gateway, or is no query, is answered here.
func TestAskHere(t *testing.T) {
	for _, name := range []string{
		"web.service.mesh", "t.web.service.mesh", "web.service.here.mesh", "a.node.mesh", "a.node.here.mesh", "me.node.mesh", "q.node.mesh", "db.service.mesh",
		"web.service.elsewhere.mesh", "a.node.ther.mesh", "there.node.mesh", "there.service.mesh", "there.web.service.mesh",
		"", "mesh", "there.mesh", "web.service.there", "web.there.mesh", "service.there.mesh", "node.there.mesh", "t.u.web.service.there.mesh", "a.b.node.there.mesh", "web.service.there.mesh.mesh",
		"web.service.service.mesh", "web.service.mesh.there",
	} {
		answersItself(t, base(), asking(t, name))
	}
}

// J7: what is asked for of another centre goes on as it is, whatever its type, number and code.
func TestAskElsewhere(t *testing.T) {
	for _, name := range []string{"web.service.there.mesh", "t.web.service.there.mesh", "a.node.there.mesh", "me.node.there.mesh", "x.service.there.mesh"} {
		for _, kind := range []int{api.TypeAddress, api.TypeText, api.TypeService} {
			for _, m := range []api.Message{{}, {ID: 65535}, {Cut: true}, {Code: 15}} {
				m.Question = api.Question{Name: name, Type: kind}
				goesOn(t, base(), written(t, m), 42)
			}
		}
	}
	head := asking(t, "")[:12]
	goesOn(t, base(), head+"\x03WeB\x07SERVICE\x05There\x04mesh\x00\x00\x01\x00\x01", 42)
	for i, c := range []string{"c0", "c1", "c5"} {
		goesOn(t, full(), asking(t, "a.node."+c+".mesh"), []int{0, 1, 5}[i])
	}
}

// J7: what has records, or answers, or cannot be read, does not go on.
func TestAskWithMore(t *testing.T) {
	q := api.Question{Name: "web.service.there.mesh", Type: api.TypeAddress}
	text := written(t, api.Message{Question: q})
	for _, s := range []string{
		written(t, api.Message{Question: q, Answer: true}), written(t, api.Message{Question: q, Records: []api.Record{{Name: "a", Type: api.TypeAddress}}}),
		text + "\x00", text[:len(text)-1], text[:12], text[:11], "", "\x00", text[:2] + "\x01" + text[3:], text[:3] + "\x10" + text[4:],
	} {
		answersItself(t, base(), s)
	}
}

// J7: of what gets no reply: an empty text.
func TestAskWithoutReply(t *testing.T) {
	for _, text := range []string{"", "\x00", asking(t, "web.service.mesh")[:11], "\x01\x02\x80" + asking(t, "web.service.there.mesh")[3:]} {
		if s, to, ok, e := Ask(base(), text); s != "" || to != 0 || ok || e != api.OK {
			t.Errorf("%q: it is %q %d %v %d", text, s, to, ok, e)
		}
	}
}

// J7: a node's own centre is not another one, though there is a gateway of it; and where there are no gateways nothing goes on.
func TestAskBehindChanges(t *testing.T) {
	n := turned(func(n *api.Node) { n.Centre = "there" })
	answersItself(t, n, asking(t, "web.service.there.mesh"))
	goesOn(t, n, asking(t, "web.service.here.mesh"), 41)
	n.Gateways = nil
	answersItself(t, n, asking(t, "web.service.here.mesh"))
	opened, _ := Open(base(), 7)
	opened.Centre = "elsewhere"
	goesOn(t, opened, asking(t, "web.service.here.mesh"), 7)
}

// J7, P1: whatever bytes come.
func FuzzAsk(f *testing.F) {
	for _, name := range []string{"web.service.mesh", "web.service.there.mesh", "a.node.here.mesh", "a.node.there.mesh", "mesh", ""} {
		f.Add(asking(f, name))
	}
	f.Fuzz(func(t *testing.T, text string) {
		s, to, ok, e := Ask(base(), text)
		if e != api.OK || ok && (s != text || to != 42) || !ok && to != 0 {
			t.Errorf("%q: it is %q %d %v %d", text, s, to, ok, e)
		}
		if !ok {
			answersItself(t, base(), text)
		}
	})
}
