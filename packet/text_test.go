package packet

import (
	"fmt"
	"reflect"
	"regexp"
	"slices"
	"strings"
	"testing"

	"hearsay/api"
	"hearsay/draw"
	"hearsay/fault"
)

const baseText = "4;from1;" +
	"2;1;a1;10;11;0;2;bb4;12;4294967295;1;" +
	"2;1;c1;d1;e1;f20;21;1;22;0;1;c2;dd2;ee0;23;24;0;25;1;" +
	"2;1;g30;31;1;h32;33;" +
	"2;1;i-40;41;-42;43;44;1;j45;-46;47;0;1000;"

// same tells whether two packets are, where a list that is empty may be nil or not.
func same(a, b api.Packet) bool {
	return a.From == b.From && a.Whole == b.Whole && slices.Equal(a.Members, b.Members) && slices.Equal(a.Services, b.Services) && slices.Equal(a.Gateways, b.Gateways) && slices.Equal(a.Where, b.Where)
}

// I2: each field in its place; a name that looks like a number, too.
func TestWrite(t *testing.T) {
	for _, x := range []struct {
		want string
		p    api.Packet
	}{
		{baseText, base()},
		{"1;a0;0;0;0;0;", api.Packet{From: "a"}},
		{"1;a1;0;0;0;0;", api.Packet{From: "a", Whole: true}},
		{"30;" + long + "0;0;0;0;0;", api.Packet{From: long}},
		{"1;a0;1;1;x2;7;8;1;0;0;0;", told(api.Member{Name: "x", State: 2, Life: 7, Address: 8, Server: true})},
		{"1;a0;1;2;122;7;0;0;0;0;0;", told(one("12", 2, 7))},
		{"1;a0;2;1;b1;1;0;0;1;a1;1;0;0;0;0;0;", told(one("b", 1, 1), one("a", 1, 1))},
		{"1;-1;0;0;0;1;1;-0;0;0;0;0;", api.Packet{From: "-", Whole: true, Where: []api.Where{{Node: "-"}}}},
	} {
		if s, e := Write(x.p); s != x.want || e != api.OK {
			t.Errorf("%v: it is %q %d, and must be %q", x.p, s, e, x.want)
		}
	}
}

// I2: errors: those of Check, and nothing with them.
func TestWriteErrors(t *testing.T) {
	for why, packets := range wrongPackets() {
		for _, p := range packets {
			if s, e := Write(p); s != "" || e != why {
				t.Errorf("%v: it is %q %d, and must be %d", p, s, e, why)
			}
		}
	}
}

// I3, I4.
func TestReadWhatWasWritten(t *testing.T) {
	for _, p := range rightPackets() {
		s, e := Write(p)
		if x, f := Read(s); !same(x, p) || e != api.OK || f != api.OK {
			t.Errorf("%v: it is %q %d, and then %v %d", p, s, e, x, f)
		}
	}
	if p, e := Read(baseText); !reflect.DeepEqual(p, base()) || e != api.OK {
		t.Errorf("it is %v %d", p, e)
	}
}

// readsNothing: is a text none, and does nothing come of it?
func readsNothing(t *testing.T, s string) {
	t.Helper()
	if p, e := Read(s); !same(p, api.Packet{}) || e != api.ErrForm {
		t.Errorf("%q: it is %v %d, and must be %d", s, p, e, api.ErrForm)
	}
}

// I3: numbers are written in one way alone; each number of a text in turn is written otherwise.
func TestReadNumbersWrittenOtherwise(t *testing.T) {
	for _, at := range regexp.MustCompile(`-?[0-9]+;`).FindAllStringIndex(baseText, -1) {
		n := strings.TrimSuffix(baseText[at[0]:at[1]], ";")
		for _, other := range []string{
			"", "-", "+" + n, "0" + n, "00" + n, " " + n, n + " ", n + ".", n + ".0", n + "e0", "0x" + n, n + "_0", "_" + n, "--" + n, "-0" + n, "-0", "- " + n, n + "\x00", "٣", "a",
			"18446744073709551616", "-18446744073709551616", "9223372036854775807", "9223372036854775808", "-9223372036854775808", "-9223372036854775809", strings.Repeat("9", 1000),
		} {
			readsNothing(t, baseText[:at[0]]+other+";"+baseText[at[1]:])
		}
		readsNothing(t, baseText[:at[0]]+n+baseText[at[1]:])
		readsNothing(t, baseText[:at[0]]+n+":"+baseText[at[1]:])
		readsNothing(t, baseText[:at[0]]+n+";;"+baseText[at[1]:])
		readsNothing(t, baseText[:at[0]]+baseText[at[1]:])
	}
}

// I3: what ends early, or has something behind its end, is none.
func TestReadOtherEnds(t *testing.T) {
	for n := range len(baseText) {
		readsNothing(t, baseText[:n])
		readsNothing(t, baseText[n+1:])
	}
	for _, behind := range []string{"x", ";", "0", "0;", " ", "\n", "\x00", baseText} {
		readsNothing(t, baseText+behind)
		readsNothing(t, behind+baseText)
	}
}

// I3: yes or no is 1 or 0, and nothing else.
func TestReadFlags(t *testing.T) {
	for _, form := range []string{"1;a%d;0;0;0;0;", "1;a0;1;1;b1;1;0;%d;0;0;0;", "1;a1;0;1;1;n1;i1;s0;0;0;%d;1;0;0;0;", "1;a1;0;1;1;n1;i1;s0;0;0;0;1;%d;0;0;"} {
		for _, n := range []int{-1, 2, 3, 256, 1 << 32} {
			readsNothing(t, fmt.Sprintf(form, n))
		}
		for n := range 2 {
			if _, e := Read(fmt.Sprintf(form, n)); e != api.OK {
				t.Errorf("%s, %d: it is %d", form, n, e)
			}
		}
	}
}

// I3, P1: numbers that tell of far more than there is: the reading ends where the text does.
func TestReadOfTooMuch(t *testing.T) {
	for _, n := range []string{"-1", "5", "20", "1000000", "9223372036854775807"} {
		for _, form := range []string{"#;", "#;a0;0;0;0;0;", "1;a0;#;", "1;a0;#;0;0;0;", "1;a0;0;#;0;0;", "1;a1;0;0;#;0;", "1;a1;0;0;0;#;", "1;a0;1;#;b1;1;0;0;0;0;0;"} {
			readsNothing(t, strings.ReplaceAll(form, "#", n))
		}
	}
	member := "1;b1;1;0;0;"
	for n, why := range map[int]api.Errno{1: api.OK, 20: api.ErrForm, 21: api.ErrForm, 100000: api.ErrForm} {
		if _, e := Read(fmt.Sprint("1;a1;", n, ";", strings.Repeat(member, n), "0;0;0;")); e != why {
			t.Errorf("%d members: it is %d, and must be %d", n, e, why)
		}
	}
}

// raw writes a packet without asking whether it may be.
func raw(p api.Packet) string {
	var w writer
	w.packet(p)
	return w.String()
}

// I3: none that Check has an error of is read, whatever that error is.
func TestReadWrongPackets(t *testing.T) {
	for _, packets := range wrongPackets() {
		for _, p := range packets {
			readsNothing(t, raw(p))
		}
	}
	for _, p := range rightPackets() {
		if x, e := Read(raw(p)); !same(x, p) || e != api.OK {
			t.Errorf("%v: it is %v %d", p, x, e)
		}
	}
}

// readsWell: I4: a text that is read is the one that is written; and the reader gives up by its own panics alone, which Read would hide.
func readsWell(t *testing.T, s string) {
	t.Helper()
	p, e := Read(s)
	if e != api.OK {
		readsNothing(t, s)
	} else if w, f := Write(p); w != s || f != api.OK {
		t.Errorf("%q: it is %v, and then %q %d", s, p, w, f)
	}
	defer func() {
		told := recover()
		if _, ok := told.(fault.Fault); told != nil && !ok {
			t.Errorf("%q: it panics by %v", s, told)
		}
	}()
	r := reader{rest: s}
	r.packet()
}

// I4: each byte in turn is each byte that there is, or stands there twice.
func TestReadEachByteChanged(t *testing.T) {
	for i := range len(baseText) {
		for b := range 256 {
			readsWell(t, baseText[:i]+string([]byte{byte(b)})+baseText[i+1:])
			readsWell(t, baseText[:i]+string([]byte{byte(b)})+baseText[i:])
		}
	}
}

// drawnPacket: most of them are right.
func drawnPacket(d *draw.Numbers) api.Packet {
	p := api.Packet{From: fmt.Sprint("n", d.Below(100)), Whole: d.Below(3) > 0}
	for i := range d.Below(7) {
		p.Members = append(p.Members, api.Member{Name: fmt.Sprint("m", i), State: d.From(1, 4), Life: d.From(1, api.MaxLife), Address: d.Below(1 << 32), Server: d.Below(2) == 0})
	}
	for i := range d.Below(5) {
		p.Services = append(p.Services, api.Service{
			Node: fmt.Sprint("m", i/2), ID: fmt.Sprint("i", i), Name: fmt.Sprint(d.Below(1000)), Tag: []string{"", "t", "0"}[d.Below(3)], Address: d.Below(1 << 32), Port: d.Below(65536),
			Passing: d.Below(2) == 0, Version: d.From(1, api.MaxVersion), Gone: d.Below(2) == 0,
		})
	}
	for i := range d.Below(4) {
		p.Gateways = append(p.Gateways, api.Gateway{Centre: fmt.Sprint(i), Address: d.Below(1 << 32), Version: d.From(1, api.MaxVersion)})
	}
	for i := range d.Below(4) {
		x := func() int { return d.From(-api.MaxPlace, api.MaxPlace) }
		p.Where = append(p.Where, api.Where{Node: fmt.Sprint(i), Place: api.Place{X: x(), Y: x(), Z: x(), Height: d.From(0, api.MaxHeight), Sure: d.From(0, api.MaxSure)}})
	}
	return p
}

// I4: whatever packet: it is read as it was, if it is written at all.
func TestDrawnPackets(t *testing.T) {
	d, many := new(draw.Numbers), 0
	for range 2000 {
		p := drawnPacket(d)
		s, e := Write(p)
		x, f := Read(s)
		if e == api.OK {
			many++
		}
		if e != Check(p) || (e == api.OK) != (f == api.OK) || e == api.OK && !same(x, p) {
			t.Fatalf("%v: it is %q %d, and then %v %d", p, s, e, x, f)
		}
	}
	if many < 1000 {
		t.Errorf("only %d were written", many)
	}
}

// P2: what is handed in is only read, the room behind its lists too.
func TestPacketsAreOnlyRead(t *testing.T) {
	p, was := full(), full()
	p.Members, p.Services, p.Gateways, p.Where = p.Members[:3], p.Services[:3], p.Gateways[:3], p.Where[:3]
	s, _ := Write(p)
	if again, e := Write(p); Check(p) != api.OK || e != api.OK || again != s {
		t.Errorf("it is %q %d, and was %q", again, e, s)
	}
	p.Members, p.Services, p.Gateways, p.Where = p.Members[:20], p.Services[:40], p.Gateways[:6], p.Where[:20]
	if !same(p, was) {
		t.Errorf("it changed: %v", p)
	}
}

// P2: what was read is the caller's.
func TestWhatIsReadIsNew(t *testing.T) {
	p, _ := Read(baseText)
	p.Members[0], p.Services[0], p.Gateways[0], p.Where[0] = api.Member{}, api.Service{}, api.Gateway{}, api.Where{}
	if x, e := Read(baseText); !same(x, base()) || e != api.OK {
		t.Errorf("it is %v %d", x, e)
	}
}

func FuzzRead(f *testing.F) {
	f.Add(baseText)
	for _, p := range rightPackets() {
		f.Add(raw(p))
	}
	f.Fuzz(readsWell)
}
