package dns

import (
	"slices"
	"strings"
	"testing"

	"hearsay/api"
)

var question = api.Question{Name: "a.b", Type: api.TypeAddress}

// sample has all fields that a message may have, and records of each type.
func sample() api.Message {
	return api.Message{ID: 258, Answer: true, Code: 3, Question: question, Records: []api.Record{
		{Name: "a.b", Type: api.TypeAddress, Lasts: 1<<31 - 1, Address: 0xfffefdfc},
		{Name: "", Type: api.TypeText, Lasts: 1, Text: "T\x00\xff"},
		{Name: "c", Type: api.TypeService, Port: 0x1234, Target: "x.yz"},
	}}
}

const sampleText = "\x01\x02\x80\x03\x00\x01\x00\x03\x00\x00\x00\x00" +
	"\x01a\x01b\x00\x00\x01\x00\x01" +
	"\x01a\x01b\x00\x00\x01\x00\x01\x7f\xff\xff\xff\x00\x04\xff\xfe\xfd\xfc" +
	"\x00\x00\x10\x00\x01\x00\x00\x00\x01\x00\x04\x03T\x00\xff" +
	"\x01c\x00\x00\x21\x00\x01\x00\x00\x00\x00\x00\x0c\x00\x00\x00\x00\x12\x34\x01x\x02yz\x00"

// texts makes a message of n records of size bytes each (behind the name, the type and so on, which are 12).
func texts(n, size int) api.Message {
	m := api.Message{Question: question}
	for range n {
		m.Records = append(m.Records, api.Record{Type: api.TypeText, Text: strings.Repeat("t", size-12)})
	}
	return m
}

// A2: byte by byte.
func TestWrite(t *testing.T) {
	if s, e := Write(sample()); s != sampleText || e != api.OK {
		t.Errorf("it is\n%q, %d, and must be\n%q", s, e, sampleText)
	}
	for want, m := range map[string]api.Message{
		"\x00\x00\x00\x00\x00\x01\x00\x00\x00\x00\x00\x00\x01a\x01b\x00\x00\x01\x00\x01": {Question: question},
		"\xff\xff\x02\x0f\x00\x01\x00\x00\x00\x00\x00\x00\x00\x00\x10\x00\x01":           {ID: 65535, Cut: true, Code: 15, Question: api.Question{Type: api.TypeText}},
		"\x00\x00\x80\x00\x00\x01\x00\x00\x00\x00\x00\x00\x00\x00\x21\x00\x01":           {Answer: true, Question: api.Question{Type: api.TypeService}},
		"\x00\x00\x82\x00\x00\x01\x00\x00\x00\x00\x00\x00\x00\x00\x21\x00\x01":           {Answer: true, Cut: true, Question: api.Question{Type: api.TypeService}},
	} {
		if s, e := Write(m); s != want || e != api.OK {
			t.Errorf("%v: it is %q, %d, and must be %q", m, s, e, want)
		}
	}
}

// A3: messages of up to MaxMessage bytes, and of one more.
func TestWriteLength(t *testing.T) {
	m := texts(4, 150)
	last := &m.Records[3]
	for last.Text = ""; ; last.Text += "t" {
		size := 21 + 3*150 + 12 + len(last.Text)
		s, e := Write(m)
		if size > api.MaxMessage {
			if s != "" || e != api.ErrMany {
				t.Errorf("of %d bytes: it is %q, %d, and must be %d", size, s, e, api.ErrMany)
			}
			return
		}
		if len(s) != size || e != api.OK {
			t.Errorf("of %d bytes: it has %d, %d", size, len(s), e)
		}
	}
}

// A5: each size, against what the records before the cut have.
func TestFitEachSize(t *testing.T) {
	m := texts(0, 0)
	for i := range api.MaxRecords {
		m.Records = append(m.Records, api.Record{Type: api.TypeText, Text: strings.Repeat("t", 5*i)})
	}
	for size := 12; size <= api.MaxMessage; size++ {
		want, bytes := 0, 21
		for want < len(m.Records) && bytes+12+5*want <= size {
			bytes += 12 + 5*want
			want++
		}
		s, e := Fit(m, size)
		if size < 21 {
			if s != "" || e != api.ErrMany {
				t.Errorf("size %d: it is %q, %d, and must be %d", size, s, e, api.ErrMany)
			}
			continue
		}
		x, f := Read(s)
		if e != api.OK || f != api.OK || len(s) != bytes || !x.Cut || !slices.Equal(x.Records, m.Records[:want]) {
			t.Errorf("size %d: %d bytes, %d, of %d records, cut %v, %d; they must be %d bytes of %d records", size, len(s), e, len(x.Records), x.Cut, f, bytes, want)
		}
	}
}

// A5: what fits as a whole is what Write writes, cut or not.
func TestFitWhole(t *testing.T) {
	for _, cut := range []bool{false, true} {
		m := sample()
		m.Cut = cut
		want, _ := Write(m)
		for _, size := range []int{len(want), len(want) + 1, api.MaxMessage} {
			if s, e := Fit(m, size); s != want || e != api.OK {
				t.Errorf("size %d: it is %q, %d, and must be %q", size, s, e, want)
			}
		}
		if s, e := Fit(m, len(want)-1); len(s) >= len(want) || e != api.OK || s[2] != answerBit|cutBit {
			t.Errorf("one byte less: it is %q, %d", s, e)
		}
	}
}

func TestFitErrors(t *testing.T) {
	for _, size := range []int{-1 << 62, -1, 0, 11, api.MaxMessage + 1, 1 << 62} {
		for _, m := range []api.Message{{Question: question}, {ID: -1}} {
			if s, e := Fit(m, size); s != "" || e != api.ErrRange {
				t.Errorf("size %d: it is %q, %d, and must be %d", size, s, e, api.ErrRange)
			}
		}
	}
	wrong := texts(3, 12)
	wrong.Records[2].Type = 2
	for _, size := range []int{12, 21, 33, 60} { // the last record would have been cut: its error is told all the same
		if s, e := Fit(wrong, size); s != "" || e != api.ErrKind {
			t.Errorf("size %d: it is %q, %d, and must be %d", size, s, e, api.ErrKind)
		}
	}
	if s, e := Fit(texts(21, 12), 100); s != "" || e != api.ErrMany {
		t.Errorf("21 records: it is %q, %d, and must be %d", s, e, api.ErrMany)
	}
	least := api.Message{Question: api.Question{Type: api.TypeText}}
	for size, want := range map[int]api.Errno{12: api.ErrMany, 16: api.ErrMany, 17: api.OK} {
		if _, e := Fit(least, size); e != want {
			t.Errorf("size %d: it is %d, and must be %d", size, e, want)
		}
	}
}

// P2, P3: records are only read, the room behind them too, and nothing is kept.
func TestWriteOnlyReads(t *testing.T) {
	m := texts(8, 100)
	room := m.Records
	m.Records = room[:5]
	for range 2 {
		s, e := Fit(m, 300)
		if len(s) != 221 || e != api.OK {
			t.Errorf("it has %d bytes, %d", len(s), e)
		}
		if s, e := Write(m); s != "" || e != api.ErrMany {
			t.Errorf("it is %q, %d", s, e)
		}
	}
	if len(m.Records) != 5 || m.Cut || !slices.Equal(room, texts(8, 100).Records) {
		t.Errorf("the message was changed: %v", m)
	}
}
