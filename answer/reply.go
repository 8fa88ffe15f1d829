package answer

import (
	"hearsay/api"
	"hearsay/dns"
	"hearsay/query"
)

// A message begins with sizeOfHead bytes; in the third one of them answers is set, if it answers.
const (
	sizeOfHead = 12
	answers    = 128
)

// reply to nothing that is too short to have an ID to answer by, and to no answer: two that answer each other would never end.
func (k known) reply(s string) (string, bool, api.Errno) {
	if len(s) < sizeOfHead || s[2]&answers != 0 {
		return "", false, api.OK
	}
	m := k.message(s)
	m.ID = int(s[0])<<8 | int(s[1])
	m.Answer = true
	text, why := dns.Fit(m, api.MaxMessage)
	return text, why == api.OK, why
}

// message that answers: its code, question and records.
func (k known) message(s string) api.Message {
	asked, why := dns.Read(s)
	if why != api.OK || len(asked.Records) > 0 {
		return api.Message{Code: api.CodeForm, Question: api.Question{Type: api.TypeAddress}}
	}
	l, code := k.answerTo(asked.Question)
	return api.Message{Code: code, Question: asked.Question, Records: l}
}

func (k known) answerTo(asked api.Question) ([]api.Record, int) {
	q, why := query.Parse(asked.Name)
	if why == api.ErrFar {
		return nil, api.CodeNot
	}
	if why != api.OK {
		return nil, api.CodeNone
	}
	l, code, why := k.records(q, asked.Type)
	if why != api.OK {
		return nil, api.CodeFail
	}
	return l, code
}
