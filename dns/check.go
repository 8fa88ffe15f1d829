package dns

import (
	"hearsay/api"
	"hearsay/fault"
	"hearsay/rule"
)

const (
	maxTwoBytes = 1<<16 - 1
	maxCode     = 15
	maxLasts    = 1<<31 - 1
	maxText     = 200
)

// check gives up by the first error that Write has of a message, but for its bytes: Fit and Read do without that one.
func check(m api.Message) {
	fault.Need(rule.Within(m.ID, 0, maxTwoBytes) && rule.Within(m.Code, 0, maxCode), api.ErrRange)
	fault.Need(len(m.Records) <= api.MaxRecords, api.ErrMany)
	checkName(m.Question.Name)
	fault.Need(rule.Type(m.Question.Type), api.ErrKind)
	for _, r := range m.Records {
		checkRecord(r)
	}
}

func checkRecord(r api.Record) {
	checkName(r.Name)
	fault.Need(rule.Type(r.Type), api.ErrKind)
	fault.Need(rule.Within(r.Lasts, 0, maxLasts), api.ErrRange)
	fault.Need(r == ownFields(r), api.ErrForm)
	fault.Need(rule.Address(r.Address) && rule.Within(r.Port, 0, maxTwoBytes), api.ErrRange)
	fault.Need(len(r.Text) <= maxText, api.ErrMany)
	checkName(r.Target)
}

func checkName(name string) {
	why := Check(name)
	fault.Need(why == api.OK, why)
}

// ownFields is the record without what its type does not name.
func ownFields(r api.Record) api.Record {
	own := api.Record{Name: r.Name, Type: r.Type, Lasts: r.Lasts}
	switch r.Type {
	case api.TypeAddress:
		own.Address = r.Address
	case api.TypeText:
		own.Text = r.Text
	case api.TypeService:
		own.Port, own.Target = r.Port, r.Target
	}
	return own
}
