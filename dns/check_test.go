package dns

import (
	"strings"
	"testing"

	"hearsay/api"
)

var long = strings.Repeat("l", api.MaxLabel)

// A1: what is a name, what is none, and what has too much of it.
func TestCheck(t *testing.T) {
	three := strings.Repeat(long+".", 3)
	for name, want := range map[string]api.Errno{
		"": api.OK, "a": api.OK, "a.b": api.OK, "_x-1.0": api.OK, long: api.OK,
		".": api.ErrForm, "a.": api.ErrForm, ".a": api.ErrForm, "a..b": api.ErrForm, "A": api.ErrForm,
		"a b": api.ErrForm, "a\x00": api.ErrForm, "\xff": api.ErrForm, "é": api.ErrForm, long + "l": api.ErrForm,
		strings.Repeat("a.", api.MaxLabels-1) + "a":    api.OK,
		strings.Repeat("a.", api.MaxLabels) + "a":      api.ErrMany,
		three + long[:api.MaxName-len(three)]:          api.OK,
		three + long[:api.MaxName-len(three)+1]:        api.ErrMany,
		strings.Repeat("a.", api.MaxLabels+5) + "A":    api.ErrForm,
		strings.Repeat("a.", api.MaxLabels+5):          api.ErrForm,
		strings.Repeat(long+".", 9) + long + "l":       api.ErrForm,
		strings.Repeat("a.", 1<<20) + "a":              api.ErrMany,
		strings.Repeat("a", 1<<20):                     api.ErrForm,
		strings.Repeat("a.", 1<<20) + "." + "a":        api.ErrForm,
		three + long[:api.MaxName-len(three)] + ".a..": api.ErrForm,
	} {
		if e := Check(name); e != want {
			t.Errorf("%.200q: it is %d, and must be %d", name, e, want)
		}
	}
}

// A3: a message that has all errors loses them one by one, in the order in which they are told.
func TestWriteErrorsInOrder(t *testing.T) {
	bad := api.Record{Name: "A", Type: 2, Lasts: -1, Address: -1, Text: strings.Repeat("t", 201), Port: -1, Target: "."}
	m := api.Message{ID: -1, Code: 16, Question: api.Question{Name: "Q", Type: 2}}
	for range api.MaxRecords + 1 {
		m.Records = append(m.Records, bad)
	}
	many := strings.Repeat("a.", api.MaxLabels) + "a"
	for i, step := range []struct {
		want api.Errno
		mend func()
	}{
		{api.ErrRange, func() { m.ID = 0 }},
		{api.ErrRange, func() { m.Code = 0 }},
		{api.ErrMany, func() { m.Records = m.Records[:2] }},
		{api.ErrForm, func() { m.Question.Name = many }},
		{api.ErrMany, func() { m.Question.Name = "q" }},
		{api.ErrKind, func() { m.Question.Type = api.TypeText }},
		{api.ErrForm, func() { m.Records[0].Name = many }},
		{api.ErrMany, func() { m.Records[0].Name = "" }},
		{api.ErrKind, func() { m.Records[0].Type = api.TypeAddress }},
		{api.ErrRange, func() { m.Records[0].Lasts = 0 }},
		{api.ErrForm, func() { m.Records[0].Text = "" }},
		{api.ErrForm, func() { m.Records[0].Port = 0 }},
		{api.ErrForm, func() { m.Records[0].Target = "" }},
		{api.ErrRange, func() { m.Records[0].Address = 1 << 32 }},
		{api.ErrRange, func() { m.Records[0].Address = 1 }},
		{api.ErrForm, func() { m.Records[1].Name = "" }},
		{api.ErrKind, func() { m.Records[1].Type = api.TypeService }},
		{api.ErrRange, func() { m.Records[1].Lasts = 0 }},
		{api.ErrForm, func() { m.Records[1].Address = 0 }},
		{api.ErrForm, func() { m.Records[1].Text = "" }},
		{api.ErrRange, func() { m.Records[1].Port = 65536 }},
		{api.ErrRange, func() { m.Records[1].Port = 0 }},
		{api.ErrForm, func() { m.Records[1].Target = many }},
		{api.ErrMany, func() { m.Records[1].Target = "" }},
		{api.OK, func() {}},
	} {
		s, e := Write(m)
		if e != step.want || (s == "") != (e != api.OK) {
			t.Errorf("step %d: it is %q, %d, and must be %d", i, s, e, step.want)
		}
		if _, e := Fit(m, api.MaxMessage); e != step.want {
			t.Errorf("step %d: Fit is %d, and must be %d", i, e, step.want)
		}
		if _, e := Fit(m, api.MaxMessage+1); e != api.ErrRange {
			t.Errorf("step %d: Fit beyond its sizes is %d, and must be %d", i, e, api.ErrRange)
		}
		step.mend()
	}
}

// A3: numbers and texts at their bounds and beyond, and fields of another type.
func TestWriteRecordBounds(t *testing.T) {
	for _, x := range []struct {
		r    api.Record
		want api.Errno
	}{
		{api.Record{Type: api.TypeAddress}, api.OK},
		{api.Record{Type: api.TypeText}, api.OK},
		{api.Record{Type: api.TypeService}, api.OK},
		{api.Record{Type: 0}, api.ErrKind},
		{api.Record{Type: -1}, api.ErrKind},
		{api.Record{Type: 1 << 16}, api.ErrKind},
		{api.Record{Type: 1, Lasts: 1<<31 - 1}, api.OK},
		{api.Record{Type: 1, Lasts: 1 << 31}, api.ErrRange},
		{api.Record{Type: 1, Lasts: -1}, api.ErrRange},
		{api.Record{Type: 1, Address: 1<<32 - 1}, api.OK},
		{api.Record{Type: 1, Address: 1 << 32}, api.ErrRange},
		{api.Record{Type: 1, Address: -1}, api.ErrRange},
		{api.Record{Type: 1, Text: "t"}, api.ErrForm},
		{api.Record{Type: 1, Port: 1}, api.ErrForm},
		{api.Record{Type: 1, Target: "t"}, api.ErrForm},
		{api.Record{Type: 16, Text: strings.Repeat("\xff", 200)}, api.OK},
		{api.Record{Type: 16, Text: strings.Repeat("t", 201)}, api.ErrMany},
		{api.Record{Type: 16, Address: 1}, api.ErrForm},
		{api.Record{Type: 16, Port: 1}, api.ErrForm},
		{api.Record{Type: 16, Target: "t"}, api.ErrForm},
		{api.Record{Type: 33, Port: 65535}, api.OK},
		{api.Record{Type: 33, Port: 65536}, api.ErrRange},
		{api.Record{Type: 33, Port: -1}, api.ErrRange},
		{api.Record{Type: 33, Target: "T"}, api.ErrForm},
		{api.Record{Type: 33, Target: strings.Repeat("t.", 8) + "t"}, api.ErrMany},
		{api.Record{Type: 33, Address: 1}, api.ErrForm},
		{api.Record{Type: 33, Text: "t"}, api.ErrForm},
	} {
		m := api.Message{Question: api.Question{Type: api.TypeAddress}, Records: []api.Record{x.r}}
		if s, e := Write(m); e != x.want || (s == "") != (e != api.OK) {
			t.Errorf("%v: it is %q, %d, and must be %d", x.r, s, e, x.want)
		}
	}
}

func TestWriteMessageBounds(t *testing.T) {
	for _, x := range []struct {
		id, code, t int
		want        api.Errno
	}{
		{0, 0, 1, api.OK}, {65535, 15, 16, api.OK}, {1, 3, 33, api.OK},
		{-1, 0, 1, api.ErrRange}, {65536, 0, 1, api.ErrRange}, {0, -1, 1, api.ErrRange}, {0, 16, 1, api.ErrRange},
		{0, 0, 0, api.ErrKind}, {0, 0, 2, api.ErrKind}, {0, 0, -1, api.ErrKind}, {0, 0, 1<<16 + 1, api.ErrKind},
	} {
		m := api.Message{ID: x.id, Code: x.code, Question: api.Question{Type: x.t}}
		if _, e := Write(m); e != x.want {
			t.Errorf("%v: it is %d, and must be %d", m, e, x.want)
		}
	}
}
