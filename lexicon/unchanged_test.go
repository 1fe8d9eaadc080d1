package lexicon_test

import (
	"strings"
	"testing"

	"anvil/anvil"
	"anvil/api"
	"anvil/lexicon"
)

// TestMachinesDoNotChangeTheMap: words of one's own that hide those of the language leave the map as it is.
func TestMachinesDoNotChangeTheMap(t *testing.T) {
	names := strings.Fields("+ - * / mod = < > and or xor not dup drop swap over rot >r r> r@ depth . emit cr @ ! execute own")
	before := map[string]lexicon.Primitive{}
	for _, name := range names {
		before[name], _ = lexicon.Listed(name)
	}
	m := anvil.New()
	for _, name := range names {
		m.Do(": " + name + " 7 ; " + name + " 8 " + name)
	}
	if got := len(m.Words()); got != len(names) {
		t.Fatalf("P5: %d words were made, want %d", got, len(names))
	}
	for _, name := range names {
		listed, ok := lexicon.Listed(name)
		if listed != before[name] || ok == (name == "own") {
			t.Errorf("P2: Listed(%q) = %+v, %t, and was %+v", name, listed, ok, before[name])
		}
		if text, _ := m.See(name); text != ": 7" {
			t.Errorf("P6: See(%q) = %q", name, text)
		}
	}
}

// TestMachinesDoNotReadTheMap: what the calls answer is worked out by the function alone.
func TestMachinesDoNotReadTheMap(t *testing.T) {
	lexicon.WithoutMap(func() {
		m := anvil.New()
		if a := m.Do(": sq dup * ; 5 sq . what"); a != (api.Answer{Out: "25 ", Err: api.ErrWord, Word: 8}) {
			t.Errorf("P4: without the map: %+v", a)
		}
		if a := m.Do("variable v 3 v ! v @ ' sq execute ."); a != (api.Answer{Out: "9 "}) {
			t.Errorf("P4: without the map: %+v", a)
		}
		if text, err := m.See("sq"); text != ": dup *" || err != api.OK {
			t.Errorf("P6: without the map: %q, %d", text, err)
		}
	})
	if _, ok := lexicon.Listed("dup"); !ok {
		t.Error("the map was not filled again")
	}
}
