package packet

import (
	"strconv"
	"strings"

	"hearsay/api"
	"hearsay/fault"
	"hearsay/rule"
)

// end stands behind each number.
const end = ';'

// reader of a packet: it gives up by a fault where the text is none.
type reader struct {
	rest string
}

// packet counts on fields being read in the order in which they stand here: so the language has it for calls in a literal.
func (r *reader) packet() api.Packet {
	return api.Packet{
		From:  r.text(),
		Whole: r.flag(),
		Members: readList(r, func() api.Member {
			return api.Member{Name: r.text(), State: r.number(), Life: r.number(), Address: r.number(), Server: r.flag()}
		}),
		Services: readList(r, func() api.Service {
			return api.Service{
				Node: r.text(), ID: r.text(), Name: r.text(), Tag: r.text(),
				Address: r.number(), Port: r.number(), Passing: r.flag(), Version: r.number(), Gone: r.flag(),
			}
		}),
		Gateways: readList(r, func() api.Gateway {
			return api.Gateway{Centre: r.text(), Address: r.number(), Version: r.number()}
		}),
		Where: readList(r, func() api.Where {
			return api.Where{Node: r.text(), Place: r.place()}
		}),
	}
}

func (r *reader) place() api.Place {
	return api.Place{X: r.number(), Y: r.number(), Z: r.number(), Height: r.number(), Sure: r.number()}
}

// readList makes no room ahead: there may be far fewer than the text says.
func readList[T any](r *reader, read func() T) []T {
	many := r.number()
	fault.Need(many >= 0, api.ErrForm)
	var l []T
	for range many {
		l = append(l, read())
	}
	return l
}

// number must be written as it would be: so noughts ahead, and signs, are told from none.
func (r *reader) number() int {
	digits, rest, found := strings.Cut(r.rest, string(end))
	n, err := strconv.Atoi(digits)
	fault.Need(found && err == nil && strconv.Itoa(n) == digits, api.ErrForm)
	r.rest = rest
	return n
}

func (r *reader) text() string {
	size := r.number()
	fault.Need(rule.Within(size, 0, len(r.rest)), api.ErrForm)
	s := strings.Clone(r.rest[:size])
	r.rest = r.rest[size:]
	return s
}

func (r *reader) flag() bool {
	n := r.number()
	fault.Need(n == 0 || n == 1, api.ErrForm)
	return n == 1
}
