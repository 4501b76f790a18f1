package text_test

import (
	"testing"

	"brew/text"
)

// read answers what a text holds in whose bodies nothing is to be done.
func read(t *testing.T, whole string) *text.Text {
	t.Helper()
	r := text.NewReader(whole)
	r.ReadClasses()
	r.ReadMethods()
	for r.NextBody() {
		r.EndBody(nil)
	}
	result, place := r.Result()
	if place != text.NoPlace {
		t.Fatalf("%q fails at %d", whole, place)
	}
	return result
}

// C and D come from B, B from A.
const family = "-i.AA.Bi.B.;iA.CD.;A0:.B1iC:.;:."

func TestFits(t *testing.T) {
	all := "izABCD-"
	fits := []string{"i-", "zABCD-", "A-", "AB-", "ABC-", "ABD-", "-"}
	k := read(t, family)
	for i := range all {
		for _, other := range []byte(all) {
			want := false
			for _, f := range []byte(fits[i]) {
				want = want || f == other
			}
			if got := k.Fits(all[i], other); got != want {
				t.Errorf("that %c fits %c is %v", all[i], other, got)
			}
		}
	}
}

func TestMeeting(t *testing.T) {
	k := read(t, family)
	for _, c := range []string{"iii", "iz-", "iA-", "i--", "zzz", "zAA", "zDD", "z--", "AAA", "ABA", "ADA", "BCB", "CDB", "CCC", "A--", "---"} {
		if got := k.Meeting(c[0], c[1]); got != c[2] {
			t.Errorf("%c and %c meet at %c, not at %c", c[0], c[1], got, c[2])
		}
		if got := k.Meeting(c[1], c[0]); got != c[2] {
			t.Errorf("%c and %c meet at %c, not at %c", c[1], c[0], got, c[2])
		}
	}
	apart := read(t, "-.-.A.B.;;;:.")
	for _, c := range []string{"AB-", "CD-", "ACA", "BDB", "AD-"} {
		if got := apart.Meeting(c[0], c[1]); got != c[2] {
			t.Errorf("%c and %c meet at %c, not at %c", c[0], c[1], got, c[2])
		}
	}
}

func TestFields(t *testing.T) {
	k := read(t, family)
	for i, want := range []string{"i", "iA", "iAi", "iA"} {
		class := byte('A' + i)
		got := []byte{}
		for n := 0; n < k.FieldCount(class); n++ {
			got = append(got, k.FieldType(class, n))
		}
		if string(got) != want {
			t.Errorf("the fields of %c: %s, not %s", class, got, want)
		}
	}
	if k.FieldType('A', 1) != text.Unusable || k.FieldType('A', -1) != text.Unusable || k.FieldType('E', 0) != text.Unusable {
		t.Error("a field that is not there has a type")
	}
}

func TestBodies(t *testing.T) {
	k := read(t, family)
	for _, c := range []struct {
		class  byte
		method int
		own    int
		has    int
	}{
		{'A', 0, 0, 0}, {'B', 0, -1, 0}, {'D', 0, -1, 0},
		{'A', 1, -1, -1}, {'B', 1, 1, 1}, {'C', 1, -1, 1}, {'D', 2, -1, -1}, {'E', 0, -1, -1},
	} {
		if own, has := k.OwnBody(c.class, c.method), k.BodyOf(c.class, c.method); own != c.own || has != c.has {
			t.Errorf("%c%d: its own body %d, the one it has %d", c.class, c.method, own, has)
		}
	}
	if b := k.Bodies[1]; string(b.Locals) != "BCiC" || b.Answer != 'D' {
		t.Errorf("the second body: %s, %c", b.Locals, b.Answer)
	}
}

// TestLate tells that a reader which has failed stays where it failed.
func TestLate(t *testing.T) {
	r := text.NewReader("-x.;;;:.")
	r.ReadClasses()
	r.ReadMethods()
	if r.NextBody() {
		t.Error("a body is read behind what cannot stand there")
	}
	r.EndBody(nil)
	if _, place := r.Result(); !r.Failed || place != 1 {
		t.Errorf("%v at %d", r.Failed, place)
	}
}

func TestItemAt(t *testing.T) {
	body := text.Body{Items: []text.Item{{Letter: 'r'}, {Letter: 't'}}}
	for number, letter := range []byte{'r', 't', 0} {
		if got := body.ItemAt(number); got.Letter != letter {
			t.Errorf("item %d has the letter %q", number, got.Letter)
		}
	}
	if got := body.ItemAt(-1); got.Letter != 0 {
		t.Errorf("item -1 has the letter %q", got.Letter)
	}
}
