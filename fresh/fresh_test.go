package fresh

import (
	"reflect"
	"testing"

	"hearsay/api"
)

func some() api.Node {
	return api.Node{
		Name: "a", Centre: "c",
		Members:  []api.Member{{Name: "a", State: api.StateAlive, Life: 1}, {Name: "b"}},
		Rumors:   []api.Rumor{{Told: 1}, {Told: 2}},
		Services: []api.Service{{Node: "a"}, {Node: "b"}},
		Gateways: []api.Gateway{{Centre: "c"}, {Centre: "d"}},
		Place:    api.Place{X: 1},
		Where:    []api.Where{{Node: "a"}, {Node: "b"}},
	}
}

// A copy is as what it is of; what is done to it, and to the room behind its lists, is done to nothing else.
func TestNode(t *testing.T) {
	n := some()
	room := n
	n.Members, n.Rumors, n.Services, n.Gateways, n.Where = n.Members[:1], n.Rumors[:1], n.Services[:1], n.Gateways[:1], n.Where[:1]
	c := Node(n)
	if !reflect.DeepEqual(c, n) {
		t.Errorf("it is %v, and must be %v", c, n)
	}
	c.Members[0], c.Rumors[0], c.Services[0], c.Gateways[0], c.Where[0] = api.Member{}, api.Rumor{}, api.Service{}, api.Gateway{}, api.Where{}
	c.Members, c.Rumors, c.Services = append(c.Members, api.Member{}), append(c.Rumors, api.Rumor{}), append(c.Services, api.Service{})
	c.Gateways, c.Where = append(c.Gateways, api.Gateway{}), append(c.Where, api.Where{})
	if !reflect.DeepEqual(room, some()) {
		t.Errorf("it changed what it is of: %v", room)
	}
}

// Each field of a node that is a list is one of those that are copied.
func TestAllListsAreFresh(t *testing.T) {
	n := some()
	was, is := reflect.ValueOf(n), reflect.ValueOf(Node(n))
	for i := range was.NumField() {
		if was.Field(i).Kind() == reflect.Slice && was.Field(i).Pointer() == is.Field(i).Pointer() {
			t.Errorf("%s shares its memory", was.Type().Field(i).Name)
		}
	}
}
