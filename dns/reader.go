package dns

import (
	"strings"

	"hearsay/api"
	"hearsay/fault"
	"hearsay/rule"
)

// elsewhere is the least first byte of two that tell where the rest of a name stands.
const elsewhere = 192

// reader of a message: it keeps the whole text, for names go on ahead of where it is.
type reader struct {
	text string
	at   int
}

func (r *reader) message() api.Message {
	var m api.Message
	m.ID = r.number(2)
	bits := r.number(1)
	m.Answer, m.Cut = bits&answerBit != 0, bits&cutBit != 0
	fault.Need(bits == flags(m), api.ErrForm)
	m.Code = r.number(1)
	r.expect(2, 1)
	records := r.number(2)
	r.expect(2, 0)
	r.expect(2, 0)
	m.Question.Name = r.name()
	m.Question.Type = r.number(2)
	r.expect(2, class)
	for range records {
		m.Records = append(m.Records, r.record())
	}
	fault.Need(r.at == len(r.text), api.ErrForm)
	return m
}

func (r *reader) record() api.Record {
	var x api.Record
	x.Name = r.name()
	x.Type = r.number(2)
	r.expect(2, class)
	x.Lasts = r.number(4)
	size := r.number(2)
	began := r.at
	r.data(&x)
	fault.Need(r.at-began == size, api.ErrForm)
	return x
}

func (r *reader) data(x *api.Record) {
	switch x.Type {
	case api.TypeAddress:
		x.Address = r.number(4)
	case api.TypeText:
		x.Text = strings.Clone(r.counted())
	case api.TypeService:
		r.expect(2, 0)
		r.expect(2, 0)
		x.Port = r.number(2)
		x.Target = r.name()
	}
}

// name follows its rests by readers of their own, so that r goes on behind the first part. Each rest stands ahead of the one that led to it: so this ends.
func (r *reader) name() string {
	var labels []string
	part, began := r, r.at
	for {
		switch first := part.peek(); {
		case first == 0:
			part.expect(1, 0)
			return strings.Join(labels, ".")
		case first >= elsewhere:
			rest := part.number(2) - elsewhere<<8
			fault.Need(rest < began, api.ErrForm)
			part, began = &reader{text: r.text, at: rest}, rest
		default:
			label := small(part.counted())
			fault.Need(rule.Label(label) && len(labels) < api.MaxLabels, api.ErrForm) // here, for once they are joined, a dot in one would not show
			labels = append(labels, label)
		}
	}
}

// small changes bytes, not letters: some letters beyond a byte have small ones that may stand in a label.
func small(label string) string {
	b := []byte(label)
	for i, c := range b {
		if 'A' <= c && c <= 'Z' {
			b[i] = c - 'A' + 'a'
		}
	}
	return string(b)
}

func (r *reader) counted() string {
	return r.take(r.number(1))
}

func (r *reader) expect(bytes, n int) {
	fault.Need(r.number(bytes) == n, api.ErrForm)
}

func (r *reader) number(bytes int) int {
	n := 0
	for _, b := range []byte(r.take(bytes)) {
		n = n<<8 | int(b)
	}
	return n
}

func (r *reader) peek() byte {
	fault.Need(r.at < len(r.text), api.ErrForm)
	return r.text[r.at]
}

func (r *reader) take(bytes int) string {
	fault.Need(bytes <= len(r.text)-r.at, api.ErrForm)
	r.at += bytes
	return r.text[r.at-bytes : r.at]
}
