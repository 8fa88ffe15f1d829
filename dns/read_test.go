package dns

import (
	"reflect"
	"strings"
	"testing"

	"hearsay/api"
	"hearsay/fault"
)

const (
	head  = "\x00\x07\x80\x00\x00\x01\x00\x00\x00\x00\x00\x00" // of a message without records
	asked = "\x01a\x01b\x00\x00\x01\x00\x01"                   // from 12 to 21
	rest  = "\x00\x01\x00\x01\x00\x00\x00\x05\x00\x04\x01\x02\x03\x04"
)

// of is a message of a head, a question and records.
func of(question string, records ...string) string {
	return head[:7] + string([]byte{byte(len(records))}) + head[8:] + question + strings.Join(records, "")
}

func refused(t *testing.T, why, s string) {
	t.Helper()
	if m, e := Read(s); e != api.ErrForm || !reflect.DeepEqual(m, api.Message{}) {
		t.Errorf("%s: %q: it is %v, %d, and must be %d", why, s, m, e, api.ErrForm)
	}
}

// A4, A6: what is written is read as it was.
func TestReadWritten(t *testing.T) {
	for _, m := range []api.Message{sample(), {Question: question}, {Cut: true, Code: 15, ID: 65535, Question: api.Question{Type: api.TypeService}}, texts(20, 24),
		{Question: api.Question{Name: strings.Repeat("a.", 7) + "a", Type: 1}, Records: []api.Record{{Name: strings.Repeat(long+".", 3) + long[:27], Type: 16, Text: strings.Repeat("\xc0", 200)}}}} {
		s, e := Write(m)
		x, f := Read(s)
		if e != api.OK || f != api.OK || !reflect.DeepEqual(x, m) {
			t.Errorf("%v: it is %v, %d, %d", m, x, e, f)
		}
	}
}

// A4: names that go on elsewhere.
func TestReadShortNames(t *testing.T) {
	for name, want := range map[string]string{
		"\xc0\x0c":             "a.b",
		"\x01z\xc0\x0c":        "z.a.b",
		"\x01y\x01z\xc0\x0e":   "y.z.b",
		"\xc0\x0e":             "b",
		"\xc0\x10":             "",
		"\x01z\xc0\x10":        "z",
		"\xc0\x00":             "",
		"\x01A\x02Zz\xc0\x0c":  "a.zz.a.b",
		"\x00":                 "",
		"\x04-_09\x00":         "-_09",
		"\x1e" + long + "\x00": long,
		"\x1e" + strings.ToUpper(long) + "\xc0\x0c":                      long + ".a.b",
		strings.Repeat("\x01k", 6) + "\xc0\x0c":                          strings.Repeat("k.", 6) + "a.b",
		strings.Repeat("\x1e"+long, 3) + "\x17" + long[:23] + "\xc0\x0c": strings.Repeat(long+".", 3) + long[:23] + ".a.b",
	} {
		want := api.Message{ID: 7, Answer: true, Question: question, Records: []api.Record{{Name: want, Type: 1, Lasts: 5, Address: 0x01020304}}}
		if m, e := Read(of(asked, name+rest)); e != api.OK || !reflect.DeepEqual(m, want) {
			t.Errorf("%q: it is %v, %d, and must be %v", name, m, e, want)
		}
	}
}

func TestReadBadNames(t *testing.T) {
	for why, name := range map[string]string{
		"it stands where the name began":    "\xc0\x15",
		"it stands inside the name":         "\x01z\xc0\x17",
		"it stands where this name began":   "\x01z\xc0\x15",
		"it stands behind the name":         "\xc0\x17",
		"it stands behind the message":      "\xff\xff",
		"a rest of other bytes":             "\xc0\x05",
		"a rest that comes back":            "\xc0\x14",
		"a dot":                             "\x01.\x00",
		"a dot between letters":             "\x03a.b\x00",
		"a blank":                           "\x03a b\x00",
		"a byte of nought":                  "\x01\x00\x00",
		"a byte beyond ASCII":               "\x01\xe9\x00",
		"a letter whose small one is k":     "\x03\u212a\x00",
		"a letter whose small one has an i": "\x02\u0130\x00",
		"31 bytes":                          "\x1f" + long + "l\x00",
		"64 as a length":                    "\x40\x00",
		"128 as a length":                   "\x80\x00",
		"191 as a length":                   "\xbf\x00",
		"9 labels":                          strings.Repeat("\x01k", 9) + "\x00",
		"7 labels and 2 elsewhere":          strings.Repeat("\x01k", 7) + "\xc0\x0c",
		"121 bytes":                         strings.Repeat("\x1e"+long, 3) + "\x18" + long[:24] + "\xc0\x0c",
	} {
		refused(t, why, of(asked, name+rest))
	}
	refused(t, "a question that goes on where it began", of("\xc0\x0c\x00\x01\x00\x01"))
	refused(t, "a question that goes on behind itself", of("\x01a\xc0\x0e\x00\x01\x00\x01"))
	refused(t, "a question that ends in its name", of("\x01a"))
	refused(t, "a question that ends in a rest", of("\x01a\xc0"))
	refused(t, "a question that ends in a label", of("\x05a"))
}

// A4: a question's name may go on in the head, for that stands ahead of it.
func TestReadNameInHead(t *testing.T) {
	m, e := Read("\x01x\x00\x00\x00\x01\x00\x00\x00\x00\x00\x00" + "\x01a\xc0\x00" + "\x00\x01\x00\x01")
	if e != api.OK || m.ID != 0x178 || m.Question.Name != "a.x" {
		t.Errorf("it is %v, %d", m, e)
	}
}

// A4: a rest may go on elsewhere again, but only ahead of where it began.
func TestReadRestOfRest(t *testing.T) {
	first := "\x01y\xc0\x0c" + rest  // at 21
	second := "\x01z\xc0\x15" + rest // at 39
	third := "\xc0\x29" + rest       // the rest of second, which is y and the rest of that
	want := []string{"y.a.b", "z.y.a.b", "y.a.b"}
	m, e := Read(of(asked, first, second, third))
	if e != api.OK || len(m.Records) != 3 {
		t.Fatalf("it is %v, %d", m, e)
	}
	for i, r := range m.Records {
		if r.Name != want[i] {
			t.Errorf("record %d is by %q, and must be by %q", i, r.Name, want[i])
		}
	}
	text := func(s string) string { // a record at 21 whose text is at 33
		return "\x00\x00\x10\x00\x01\x00\x00\x00\x00\x00" + string([]byte{byte(len(s) + 1), byte(len(s))}) + s
	}
	for s, name := range map[string]string{"\xc0\x0c": "a.b", "\x01x\xc0\x0e": "x.b", "\x01x\x00": "x"} {
		m, e := Read(of(asked, text(s), "\xc0\x21"+rest))
		if e != api.OK || len(m.Records) != 2 || m.Records[1].Name != name {
			t.Errorf("%q: it is %v, %d, and must be by %q", s, m, e, name)
		}
	}
	for why, s := range map[string]string{
		"a rest that stands where it began":               "\xc0\x21",
		"a rest that comes back to where it began":        "\x01x\xc0\x21",
		"a rest behind where it began, ahead of the name": "\xc0\x23\x01x\x00",
		"a rest inside where it began":                    "\x01x\xc0\x22",
		"a rest that runs on into the name":               "\x01x",
	} {
		refused(t, why, of(asked, text(s), "\xc0\x21"+rest))
	}
}

// A4: targets are names, too, and what follows is counted as it stands.
func TestReadTarget(t *testing.T) {
	service := func(size byte, priority, target string) string {
		return of(asked, "\x00\x00\x21\x00\x01\x00\x00\x00\x00\x00"+string([]byte{size})+priority+"\x00\x50"+target)
	}
	none := "\x00\x00\x00\x00"
	m, e := Read(service(10, none, "\x01T\xc0\x0c"))
	if e != api.OK || len(m.Records) != 1 || m.Records[0] != (api.Record{Type: 33, Port: 80, Target: "t.a.b"}) {
		t.Errorf("it is %v, %d", m, e)
	}
	refused(t, "more bytes than follow", service(11, none, "\x01T\xc0\x0c"))
	refused(t, "fewer bytes than follow", service(9, none, "\x01T\xc0\x0c"))
	refused(t, "the bytes of the whole name", service(13, none, "\x01T\xc0\x0c"))
	refused(t, "a target that goes on where it began", service(8, none, "\xc0\x26"))
	refused(t, "a first number", service(7, "\x00\x01\x00\x00", "\x00"))
	refused(t, "a second number", service(7, "\x00\x00\x00\x01", "\x00"))
	refused(t, "no target", service(6, none, ""))
}

// A4: wrong heads, questions and records.
func TestReadForm(t *testing.T) {
	good := of(asked, "\x00"+rest)
	if _, e := Read(good); e != api.OK {
		t.Fatalf("it is %d", e)
	}
	with := func(at int, b byte) string { return good[:at] + string([]byte{b}) + good[at+1:] }
	for _, b := range []byte{1, 4, 8, 64, 127, 129, 131, 255} {
		refused(t, "a first byte of other bits", with(2, b))
	}
	for _, b := range []byte{16, 32, 128, 255} {
		refused(t, "a second byte of 16 or more", with(3, b))
	}
	for why, s := range map[string]string{
		"no question": with(5, 0), "two questions": with(5, 2), "257 questions": with(4, 1),
		"no record, but its bytes": with(7, 0), "two records": with(7, 2), "257 records": with(6, 1),
		"a record of the third kind": with(9, 1), "256 of the third kind": with(8, 1),
		"a record of the last kind": with(11, 1), "256 of the last kind": with(10, 1),
		"a question's type": with(18, 2), "a great type": with(17, 1), "a question's class": with(20, 2), "no class": with(20, 0), "a great class": with(19, 1),
		"a record's type": with(23, 2), "a record's class": with(25, 255), "Lasts of 2^31": with(26, 128),
		"an address of 3 bytes": with(31, 3), "an address of 5 bytes": with(31, 5), "an address of 260 bytes": with(30, 1),
		"a byte more": good + "\x00", "nothing": "",
	} {
		refused(t, why, s)
	}
	for n := range len(good) {
		refused(t, "fewer bytes", good[:n])
	}
}

func TestReadTexts(t *testing.T) {
	text := func(size, count byte, s string) string {
		return of(asked, "\x00\x00\x10\x00\x01\x00\x00\x00\x00\x00"+string([]byte{size, count})+s)
	}
	for _, n := range []int{0, 1, 200} {
		s := strings.Repeat("T", n)
		m, e := Read(text(byte(n+1), byte(n), s))
		if e != api.OK || len(m.Records) != 1 || m.Records[0].Text != s {
			t.Errorf("of %d: it is %v, %d", n, m, e)
		}
	}
	refused(t, "a text of 201", text(202, 201, strings.Repeat("T", 201)))
	refused(t, "a count that is less", text(4, 2, "ttt"))
	refused(t, "a count that is more", text(3, 3, "ttt"))
	refused(t, "a type of none, with nothing", of(asked, "\x00\x00\x02\x00\x01\x00\x00\x00\x00\x00\x00"))
}

// A4: records up to MaxRecords, and one more.
func TestReadManyRecords(t *testing.T) {
	record := "\x00\x00\x10\x00\x01\x00\x00\x00\x00\x00\x01\x00"
	list := make([]string, api.MaxRecords+1)
	for i := range list {
		list[i] = record
	}
	if m, e := Read(of(asked, list[1:]...)); e != api.OK || len(m.Records) != api.MaxRecords {
		t.Errorf("it is %v, %d", m, e)
	}
	refused(t, "21 records", of(asked, list...))
}

// A4: MaxMessage bytes are read, one more are not, whatever they are.
func TestReadLength(t *testing.T) {
	m := texts(2, 200)
	m.Records = append(m.Records, texts(1, 91).Records...)
	s, _ := Write(m)
	if x, e := Read(s); len(s) != api.MaxMessage || e != api.OK || !reflect.DeepEqual(x, m) {
		t.Errorf("%d bytes: it is %v, %d", len(s), x, e)
	}
	for _, s := range []string{s + "\x00", strings.Repeat("x", api.MaxMessage+1), strings.Repeat("\x00", 1<<20)} {
		if x, e := Read(s); e != api.ErrMany || !reflect.DeepEqual(x, api.Message{}) {
			t.Errorf("%d bytes: it is %v, %d, and must be %d", len(s), x, e, api.ErrMany)
		}
	}
}

// A4: what would be too long if it was written without rests is read all the same.
func TestReadMoreThanCanBeWritten(t *testing.T) {
	name := strings.Repeat("\x1e"+long, 3) + "\x1a" + long[:26] + "\x00"
	list := make([]string, api.MaxRecords)
	for i := range list {
		list[i] = "\xc0\x0c" + rest
	}
	m, e := Read(of(name+"\x00\x01\x00\x01", list...))
	if e != api.OK || len(m.Records) != api.MaxRecords {
		t.Fatalf("it is %v, %d", m, e)
	}
	for _, r := range m.Records {
		if r.Name != m.Question.Name || len(r.Name) != 119 {
			t.Errorf("a record is by %q", r.Name)
		}
	}
	if s, e := Write(m); s != "" || e != api.ErrMany {
		t.Errorf("it is %q, %d, and must be %d", s, e, api.ErrMany)
	}
}

// P1, P3, A6: whatever comes: the same each time, nothing with an error, and what is read can be written and read.
func FuzzRead(f *testing.F) {
	written, _ := Write(sample())
	for _, s := range []string{"", head, of(asked, "\x01z\xc0\x0c"+rest), of("\x01a\xc0\x00\x00\x01\x00\x01"), written, strings.Repeat("\xc0\x00", 250)} {
		f.Add(s)
	}
	f.Fuzz(func(t *testing.T, s string) { readsWell(t, s) })
}

func readsWell(t *testing.T, s string) {
	givesUpWell(t, s)
	m, e := Read(s)
	if again, f := Read(s); e != f || !reflect.DeepEqual(m, again) {
		t.Errorf("%q: it is %v, %d and then %v, %d", s, m, e, again, f)
	}
	want := api.ErrForm
	if len(s) > api.MaxMessage {
		want = api.ErrMany
	}
	if e != api.OK {
		if e != want || !reflect.DeepEqual(m, api.Message{}) {
			t.Errorf("%q: it is %v, %d, and must be %d", s, m, e, want)
		}
		return
	}
	w, e := Write(m)
	if e == api.ErrMany {
		return
	}
	if x, f := Read(w); e != api.OK || f != api.OK || !reflect.DeepEqual(x, m) {
		t.Errorf("%q: it is %v, and then %v, %d, %d", s, m, x, e, f)
	}
}

// givesUpWell asks what Read would hide: whether the reader gives up by its own panics alone.
func givesUpWell(t *testing.T, s string) {
	defer func() {
		told := recover()
		if _, ok := told.(fault.Fault); told != nil && !ok {
			t.Errorf("%q: it panics by %v", s, told)
		}
	}()
	r := reader{text: s}
	check(r.message())
}

// A message that ends early, or of which each byte in turn is each byte that there is.
func TestReadEachByteChanged(t *testing.T) {
	s := []byte(of(asked, "\x01z\xc0\x0c"+rest, "\x00\x00\x21\x00\x01\x00\x00\x00\x00\x00\x0a\x00\x00\x00\x00\x00\x50\x01T\xc0\x15"))
	if _, e := Read(string(s)); e != api.OK {
		t.Fatalf("it is %d", e)
	}
	for n := range len(s) {
		readsWell(t, string(s[:n]))
	}
	for i, was := range s {
		for b := range 256 {
			s[i] = byte(b)
			readsWell(t, string(s))
		}
		s[i] = was
	}
}
