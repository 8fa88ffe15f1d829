package packet

import (
	"strconv"
	"strings"

	"hearsay/api"
)

// writer of packets that were checked: its builder's methods are its own.
type writer struct {
	strings.Builder
}

func (w *writer) packet(p api.Packet) {
	w.text(p.From)
	w.flag(p.Whole)
	writeList(w, p.Members, func(m api.Member) {
		w.text(m.Name)
		w.numbers(m.State, m.Life, m.Address)
		w.flag(m.Server)
	})
	writeList(w, p.Services, func(s api.Service) {
		w.text(s.Node)
		w.text(s.ID)
		w.text(s.Name)
		w.text(s.Tag)
		w.numbers(s.Address, s.Port)
		w.flag(s.Passing)
		w.numbers(s.Version)
		w.flag(s.Gone)
	})
	writeList(w, p.Gateways, func(g api.Gateway) {
		w.text(g.Centre)
		w.numbers(g.Address, g.Version)
	})
	writeList(w, p.Where, func(at api.Where) {
		w.text(at.Node)
		w.numbers(at.Place.X, at.Place.Y, at.Place.Z, at.Place.Height, at.Place.Sure)
	})
}

func writeList[T any](w *writer, l []T, write func(one T)) {
	w.numbers(len(l))
	for _, one := range l {
		write(one)
	}
}

func (w *writer) numbers(l ...int) {
	for _, n := range l {
		w.WriteString(strconv.Itoa(n))
		w.WriteByte(end)
	}
}

func (w *writer) text(s string) {
	w.numbers(len(s))
	w.WriteString(s)
}

func (w *writer) flag(yes bool) {
	if yes {
		w.numbers(1)
	} else {
		w.numbers(0)
	}
}
