package answer

import (
	"fmt"
	"slices"
	"strings"
	"testing"

	"hearsay/api"
	"hearsay/dns"
	"hearsay/draw"
)

func (k known) answer(s string) (string, bool, api.Errno) {
	return Reply(s, k.here, k.services, k.members, k.from, k.where)
}

// asking is a question for a name, of ID 258.
func asking(t *testing.T, name string, kind int) string {
	t.Helper()
	s, e := dns.Write(api.Message{ID: 258, Question: api.Question{Name: name, Type: kind}})
	if e != api.OK {
		t.Fatalf("%q %d: it is %d", name, kind, e)
	}
	return s
}

// read the reply to a message that must have one.
func (k known) read(t *testing.T, s string) api.Message {
	t.Helper()
	text, ok, e := k.answer(s)
	m, why := dns.Read(text)
	if !ok || e != api.OK || why != api.OK || len(text) > api.MaxMessage {
		t.Fatalf("%q: it is %q %v %d, and that is read as %v %d", s, text, ok, e, m, why)
	}
	return m
}

func equal(a, b api.Message) bool {
	return a.ID == b.ID && a.Answer == b.Answer && a.Cut == b.Cut && a.Code == b.Code && a.Question == b.Question && slices.Equal(a.Records, b.Records)
}

// H2: a question is answered by its ID, its name and type, and what Records tells.
func TestReply(t *testing.T) {
	for _, x := range []struct {
		name    string
		kind    int
		code    int
		records []api.Record
	}{
		{"u.web.service.mesh", 1, api.CodeOK, []api.Record{{Type: 1, Address: 31}}},
		{"u.web.service.here.mesh", 16, api.CodeOK, []api.Record{{Type: 16, Text: "k"}}},
		{"t.web.service.mesh", 33, api.CodeOK, []api.Record{{Type: 33, Port: 82, Target: "b.node.here.mesh"}, {Type: 33, Port: 80, Target: "a.node.here.mesh"}}},
		{"v.web.service.mesh", 1, api.CodeOK, nil},
		{"b.node.mesh", 1, api.CodeOK, []api.Record{{Type: 1, Address: 1<<32 - 1}}},
		{"b.node.mesh", 33, api.CodeOK, nil},
		{"e.node.mesh", 1, api.CodeNone, nil},
		{"x.service.mesh", 1, api.CodeNone, nil},
		{"web.service.there.mesh", 1, api.CodeNone, nil},
		{"mesh", 1, api.CodeNone, nil},
		{"web.mesh", 16, api.CodeNone, nil},
		{"service.service.mesh", 1, api.CodeNone, nil},
		{"web.service.mesh.mesh", 1, api.CodeNone, nil},
		{"a.node.mesh.mesh", 33, api.CodeNone, nil},
		{"", 1, api.CodeNot, nil},
		{"a", 16, api.CodeNot, nil},
		{"web.service", 1, api.CodeNot, nil},
		{"web.service.mesh.a", 33, api.CodeNot, nil},
		{"odd.service.mesh", 33, api.CodeFail, nil},
		{"t.odd.service.here.mesh", 33, api.CodeFail, nil},
		{"odd.service.there.mesh", 33, api.CodeNone, nil},
		{"odd.service.mesh", 1, api.CodeOK, []api.Record{{Type: 1, Address: 81}}},
	} {
		want := api.Message{ID: 258, Answer: true, Code: x.code, Question: api.Question{Name: x.name, Type: x.kind}, Records: x.records}
		for i := range want.Records {
			want.Records[i].Name = x.name
		}
		if m := base().read(t, asking(t, x.name, x.kind)); !equal(m, want) {
			t.Errorf("%q %d: it is %v, and must be %v", x.name, x.kind, m, want)
		}
	}
}

// H2: other things that may be read in a question: each ID, great letters, a code, Cut.
func TestReplyToOtherQuestions(t *testing.T) {
	s := asking(t, "b.node.mesh", 1)
	want := base().read(t, s)
	for _, id := range []int{0, 1, 255, 256, 65535} {
		want.ID = id
		for _, other := range []string{s[2:], strings.ReplaceAll(s, "node", "NoDE")[2:], "\x02" + s[3:], "\x00\x0f" + s[4:], "\x02\x01" + s[4:]} {
			if m := base().read(t, string([]byte{byte(id >> 8), byte(id)})+other); !equal(m, want) {
				t.Errorf("%d %q: it is %v, and must be %v", id, other, m, want)
			}
		}
	}
}

// H2: what cannot be read, and what has records, is answered by its ID alone.
func TestReplyToWrongMessages(t *testing.T) {
	s := asking(t, "web.service.mesh", 1)
	with, e := dns.Write(api.Message{ID: 258, Question: api.Question{Name: "web.service.mesh", Type: 1}, Records: []api.Record{{Name: "a", Type: 1}}})
	if e != api.OK {
		t.Fatal(e)
	}
	wrong := []string{
		with, s + "x", s + s, s[:2] + "\x01" + s[3:], s[:2] + "\x7f" + s[3:], s[:3] + "\x10" + s[4:], s[:5] + "\x00" + s[6:], s[:5] + "\x02" + s[6:],
		s[:7] + "\x01" + s[8:], s[:9] + "\x01" + s[10:], s[:11] + "\x01" + s[12:], s[:len(s)-3] + "\x02\x00\x01", s[:len(s)-1] + "\x02",
		strings.Replace(s, "web", "w b", 1), s[:12] + "\xc0\x0c\x00\x01\x00\x01", s + strings.Repeat("\x00", api.MaxMessage), s[:2] + strings.Repeat("\x00", 600),
	}
	for n := 12; n < len(s); n++ {
		wrong = append(wrong, s[:n])
	}
	want := api.Message{ID: 258, Answer: true, Code: api.CodeForm, Question: api.Question{Type: api.TypeAddress}}
	for _, s := range wrong {
		if m := base().read(t, s); !equal(m, want) {
			t.Errorf("%q: it is %v, and must be %v", s, m, want)
		}
	}
}

// H2: nothing, to less than the head of a message, and to what answers, whatever else is in it.
func TestNoReply(t *testing.T) {
	s := asking(t, "web.service.mesh", 1)
	quiet := []string{s[:2] + "\x80" + s[3:], s[:2] + "\x82" + s[3:], s[:2] + "\xff" + s[3:12], s[:2] + "\x80" + strings.Repeat("x", 600), strings.Repeat("\xff", 12)}
	for n := range 12 {
		quiet = append(quiet, s[:n], strings.Repeat("\x7f", n))
	}
	for _, s := range quiet {
		if text, ok, e := base().answer(s); text != "" || ok || e != api.OK {
			t.Errorf("%q: it is %q %v %d", s, text, ok, e)
		}
	}
}

// H2: the errors of what is known come in order, whatever was asked.
func TestReplyErrors(t *testing.T) {
	for _, s := range []string{"", "x", strings.Repeat("\xff", 12), strings.Repeat("\x00", 600), asking(t, "web.service.mesh", 1), asking(t, "a.b", 1), asking(t, "odd.service.mesh", 33)} {
		k := worst()
		for i, x := range mends(&k) {
			if text, ok, e := k.answer(s); text != "" || ok || e != x.why {
				t.Errorf("%q %d: it is %q %v %d, and must be %d", s, i, text, ok, e, x.why)
			}
			x.mend()
		}
		if _, _, e := k.answer(s); e != api.OK {
			t.Errorf("%q: nothing is wrong any more: it is %d", s, e)
		}
	}
}

// sizeOf a service's record, by chapter 1: its name, its type, class, time and size; 0, 0, the port, the target.
func sizeOf(r api.Record) int { return len(r.Name) + 2 + 10 + 6 + len(r.Target) + 2 }

// H2: as many records as fit go, from the first one on; if that is not all, it was cut.
func TestReplyFits(t *testing.T) {
	const name = "web.service.mesh"
	for _, node := range []string{"n", "nnnn", "nnnnn", "nnnnnn", strings.Repeat("n", 20), long} {
		for n := range 40 {
			k := known{here: "here"}
			for i := range n {
				k.services = append(k.services, api.Service{Node: node, ID: fmt.Sprint("i", 100+i), Name: "web", Port: i, Passing: true, Version: 1})
			}
			all, _, e := k.ask(api.Query{Service: "web"}, 33)
			if e != api.OK {
				t.Fatal(e)
			}
			fit, size := 0, 12+len(name)+2+4
			for fit < len(all) && size+sizeOf(all[fit]) <= api.MaxMessage {
				size += sizeOf(all[fit])
				fit++
			}
			m := k.read(t, asking(t, name, 33))
			if !slices.Equal(m.Records, all[:fit]) || m.Cut != (fit < len(all)) {
				t.Errorf("%d of %s: it is %v, and must be %d", n, node, m, fit)
			}
		}
	}
}

// H2: to the byte.
func TestReplyFillsAMessage(t *testing.T) {
	for last, cut := range map[int]bool{10: false, 11: false, 12: true} {
		k := known{here: "here", services: web("a", "b", "c", "d", "e", "f", "g", "h", strings.Repeat("i", last))}
		text, ok, e := k.answer(asking(t, "web.service.mesh", 33))
		if m := k.read(t, asking(t, "web.service.mesh", 33)); m.Cut != cut || !cut && len(text) != api.MaxMessage-11+last || !ok || e != api.OK {
			t.Errorf("%d: it is %v, of %d bytes", last, m, len(text))
		}
	}
}

// registered: is there a service, or a member, that the record is of?
func (k known) registered(r api.Record) bool {
	for _, s := range k.services {
		isIt := r.Type == 1 && r.Address == s.Address || r.Type == 16 && r.Text == s.ID || r.Type == 33 && r.Port == s.Port && r.Target == s.Node+".node.here.mesh"
		if isIt && s.Passing && !s.Gone && strings.Contains("."+r.Name, "."+s.Name+".service.") {
			return true
		}
	}
	return slices.ContainsFunc(k.members, func(m api.Member) bool {
		return r.Type == 1 && r.Address == m.Address && m.State <= api.StateSuspect && strings.HasPrefix(r.Name, m.Name+".node.")
	})
}

// mustAnswer: one answer goes, at most; it can be read, and each record was registered.
func mustAnswer(t *testing.T, k known, s string) {
	t.Helper()
	if len(s) < 12 || s[2] >= 128 {
		if text, ok, e := k.answer(s); text != "" || ok || e != api.OK {
			t.Fatalf("%q: it is %q %v %d", s, text, ok, e)
		}
		return
	}
	m := k.read(t, s)
	if m.ID != int(s[0])*256+int(s[1]) || !m.Answer || m.Code > api.CodeNot || m.Code != api.CodeOK && len(m.Records) > 0 {
		t.Fatalf("%q: it is %v", s, m)
	}
	for _, r := range m.Records {
		if r.Name != m.Question.Name || r.Type != m.Question.Type || !k.registered(r) {
			t.Fatalf("%q: it is %v, and nobody registered %v", s, m, r)
		}
	}
}

// H3: whatever bytes come.
func TestWhateverComes(t *testing.T) {
	d := new(draw.Numbers)
	for range 300 {
		k := drawnKnown(d)
		for _, name := range []string{fmt.Sprintf("s%d.service.mesh", d.Below(3)), fmt.Sprintf("t.s%d.service.here.mesh", d.Below(3)), fmt.Sprintf("n%d.node.mesh", d.Below(9))} {
			s := []byte(asking(t, name, []int{1, 16, 33}[d.Below(3)]))
			for range 20 {
				mustAnswer(t, k, string(s))
				s[d.Below(len(s))] = byte(d.Below(256))
				mustAnswer(t, k, string(s[:d.Below(len(s))]))
			}
		}
	}
}

func FuzzReply(f *testing.F) {
	f.Add("\x01\x02\x00\x00\x00\x01\x00\x00\x00\x00\x00\x00\x03web\x07service\x04mesh\x00\x00\x21\x00\x01")
	f.Add("\x01\x02\x00\x00\x00\x01\x00\x00\x00\x00\x00\x00\x01a\x04node\x04mesh\x00\x00\x01\x00\x01")
	f.Fuzz(func(t *testing.T, s string) { mustAnswer(t, base(), s) })
}
