package dns

import (
	"strings"

	"hearsay/api"
)

// What stands in each message, or in none.
const (
	headSize  = 12
	answerBit = 128
	cutBit    = 2
	class     = 1
)

// writer of messages that were checked: its builder's methods are its own.
type writer struct {
	strings.Builder
}

func written(m api.Message) string {
	var w writer
	w.message(m)
	return w.String()
}

func (w *writer) message(m api.Message) {
	w.number(2, m.ID)
	w.number(1, flags(m))
	w.number(1, m.Code)
	w.number(2, 1)
	w.number(2, len(m.Records))
	w.number(2, 0)
	w.number(2, 0)
	w.name(m.Question.Name)
	w.number(2, m.Question.Type)
	w.number(2, class)
	for _, r := range m.Records {
		w.record(r)
	}
}

func flags(m api.Message) int {
	bits := 0
	if m.Answer {
		bits |= answerBit
	}
	if m.Cut {
		bits |= cutBit
	}
	return bits
}

func (w *writer) record(r api.Record) {
	var data writer // apart, for its length stands ahead of it
	data.data(r)
	w.name(r.Name)
	w.number(2, r.Type)
	w.number(2, class)
	w.number(4, r.Lasts)
	w.number(2, data.Len())
	w.WriteString(data.String())
}

func (w *writer) data(r api.Record) {
	switch r.Type {
	case api.TypeAddress:
		w.number(4, r.Address)
	case api.TypeText:
		w.counted(r.Text)
	case api.TypeService:
		w.number(2, 0)
		w.number(2, 0)
		w.number(2, r.Port)
		w.name(r.Target)
	}
}

func (w *writer) name(name string) {
	if name != "" { // splitting it would make one empty label
		for _, label := range strings.Split(name, ".") {
			w.counted(label)
		}
	}
	w.number(1, 0)
}

func (w *writer) counted(text string) {
	w.number(1, len(text))
	w.WriteString(text)
}

// number writes n in some bytes, the upper one first.
func (w *writer) number(bytes, n int) {
	for i := bytes - 1; i >= 0; i-- {
		w.WriteByte(byte(n >> (8 * i)))
	}
}
