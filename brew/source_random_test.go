package brew_test

import (
	"fmt"
	"strings"
	"testing"

	"brew/brew"
)

// tree is a node of a model's source with its parts.
type tree struct {
	node  string
	parts []*tree
}

func leaf(node string) *tree { return &tree{node: node} }

func (n *tree) written() []string {
	list := []string{n.node}
	for _, part := range n.parts {
		list = append(list, part.written()...)
	}
	return list
}

// drawSource makes a source whose types most often are right.
func (d *dice) drawSource() *model {
	m := d.drawHeads()
	for _, b := range m.bodies {
		b.root = m.grow(d, b, b.answer, 1+d.below(24))
		b.code = b.root.written()
	}
	return m
}

// plan is a node to be, with what it asks of its parts: a type, "-" for any, "r" for a reference.
type plan struct{ node, asked string }

// plans answers the nodes that come to what fits a type. Some stand there often, so that they are drawn often.
func (m *model) plans(b *block, asked byte) []plan {
	all := []plan{{",", "-" + string(asked)}, {",", "-" + string(asked)}, {"i", "i" + string(asked) + string(asked)}}
	add := func(laid byte, more ...plan) {
		if asked == '-' || asked == 'r' && laid != 'i' || asked != 'r' && m.fits(laid, asked) {
			all = append(all, more...)
		}
	}
	add('i', plan{"0", ""}, plan{"1", ""}, plan{"7", ""}, plan{"r", ""}, plan{"e", "rr"}, plan{"w", "i"}, plan{"w", "i"}, plan{"o", "i-"})
	for _, letter := range "+-*/<=" {
		add('i', plan{string(letter), "ii"})
	}
	add('z', plan{"z", ""})
	for i := range b.locals {
		add(b.locals[i], plan{fmt.Sprintf("l%d", i), ""}, plan{fmt.Sprintf("l%d", i), ""})
		add('i', plan{fmt.Sprintf("s%d", i), b.locals[i : i+1]})
	}
	for i := range m.parents {
		class := string([]byte{byte('A' + i)})
		add(class[0], plan{"n" + class, ""}, plan{"n" + class, ""}, plan{"n" + class, ""}, plan{"x" + class, "r"})
		for k := range m.fields[i] {
			field := m.fields[i][k : k+1]
			add(field[0], plan{fmt.Sprintf("g%s%d", class, k), class})
			add('i', plan{fmt.Sprintf("p%s%d", class, k), class + field})
		}
		for k := range m.methods {
			if m.has(class[0], k) {
				call := plan{fmt.Sprintf("c%s%d", class, k), class + m.methods[k][:1]}
				add(m.methods[k][1], call, call)
			}
		}
	}
	return all
}

// grow makes a tree of no more nodes than there is room for.
func (m *model) grow(d *dice, b *block, asked byte, room int) *tree {
	if d.below(60) == 0 {
		asked = "ir-z"[d.below(4)]
	}
	if loop := m.growLoop(d, b, asked, room); loop != nil {
		return loop
	}
	fitting := []plan{}
	for _, p := range m.plans(b, asked) {
		if len(p.asked) < room && (len(p.asked) > 0 || room < 3 || d.below(3) == 0) {
			fitting = append(fitting, p)
		}
	}
	if len(fitting) == 0 {
		return leaf("z")
	}
	p := fitting[d.below(len(fitting))]
	n := leaf(p.node)
	rest := room - 1
	for i := range p.asked {
		share := rest - (len(p.asked) - 1 - i)
		if i < len(p.asked)-1 {
			share = 1 + d.below(share)
		}
		part := m.grow(d, b, p.asked[i], share)
		n.parts = append(n.parts, part)
		rest -= len(part.written())
	}
	return n
}

// growLoop makes a loop that counts, and so ends most often, or nil.
func (m *model) growLoop(d *dice, b *block, asked byte, room int) *tree {
	number := strings.IndexByte(b.locals, 'i')
	if number < 0 || room < 10 || asked != 'i' && asked != '-' || d.below(3) > 0 {
		return nil
	}
	count := fmt.Sprintf("l%d", number)
	below := &tree{"<", []*tree{leaf(count), leaf(fmt.Sprint(1 + d.below(5)))}}
	up := &tree{"s" + count[1:], []*tree{{"+", []*tree{leaf(count), leaf("1")}}}}
	inside := &tree{",", []*tree{m.grow(d, b, '-', room-9), up}}
	return &tree{"o", []*tree{below, inside}}
}

// typeOf is P15. A node without a type has 0.
func (m *model) typeOf(b *block, n *tree) byte {
	parts := ""
	for _, part := range n.parts {
		x := m.typeOf(b, part)
		if x == 0 {
			return 0
		}
		parts += string([]byte{x})
	}
	reference := func(x byte) bool { return x == 'z' || m.isClass(x) }
	fine, x := true, byte('i')
	switch n.node[0] {
	case ',':
		x = parts[1]
	case 'i':
		x = m.meeting(parts[1], parts[2])
		fine = parts[0] == 'i' && x != '-'
	case 'o':
		fine = parts[0] == 'i'
	case 'e':
		fine = reference(parts[0]) && reference(parts[1])
	case 'x':
		fine, x = reference(parts[0]), n.node[1]
	case 'n':
		x = n.node[1]
	case 'z':
		x = 'z'
	case 'l':
		x = b.locals[n.node[1]-'0']
	case 's':
		fine = m.fits(parts[0], b.locals[n.node[1]-'0'])
	case 'g':
		fine, x = m.fits(parts[0], n.node[1]), m.fields[n.node[1]-'A'][n.node[2]-'0']
	case 'p':
		fine = m.fits(parts[0], n.node[1]) && m.fits(parts[1], m.fields[n.node[1]-'A'][n.node[2]-'0'])
	case 'c':
		method := m.methods[n.node[2]-'0']
		fine, x = m.fits(parts[0], n.node[1]) && m.fits(parts[1], method[0]), method[1]
	default:
		fine = strings.Trim(parts, "i") == ""
	}
	if !fine {
		return 0
	}
	return x
}

func (m *model) scanned() (brew.Errno, int) {
	for i, b := range m.bodies {
		if x := m.typeOf(b, b.root); x == 0 || !m.fits(x, b.answer) {
			return brew.ErrType, i
		}
	}
	return brew.OK, 0
}

// workOut is P17 and P18.
func (w *walk) workOut(l *level, n *tree) any {
	if w.fuel == 0 {
		panic(brew.ErrFuel)
	}
	w.fuel--
	switch n.node[0] {
	case ',':
		w.workOut(l, n.parts[0])
		return w.workOut(l, n.parts[1])
	case 'i':
		if w.workOut(l, n.parts[0]).(int64) != 0 {
			return w.workOut(l, n.parts[1])
		}
		return w.workOut(l, n.parts[2])
	case 'o':
		for w.workOut(l, n.parts[0]).(int64) != 0 {
			w.workOut(l, n.parts[1])
		}
		return int64(0)
	}
	for _, part := range n.parts {
		value := w.workOut(l, part)
		l.push(value)
	}
	switch n.node[0] {
	case 's', 'p', 'w':
		w.plain(l, n.node)
		return int64(0)
	case '0', '1', '2', '3', '4', '5', '6', '7', '8', '9':
		return int64(n.node[0] - '0')
	}
	w.plain(l, n.node)
	return l.pop()
}

func TestP14AndP15AtRandom(t *testing.T) {
	d := &dice{5}
	typed, untyped := 0, 0
	for round := 0; round < 8000; round++ {
		m := d.drawSource()
		source := m.text()
		if len(source) > 400 {
			refusesLongSource(t, source)
			continue
		}
		e, at := m.scanned()
		if gotE, gotAt := brew.Scan(source); gotE != e || gotAt != at {
			t.Fatalf("Scan(%q) = %d, %d, want %d, %d", source, gotE, gotAt, e, at)
		}
		if e == brew.OK {
			typed++
		} else {
			untyped++
		}
	}
	if typed < 1000 || untyped < 1000 {
		t.Errorf("the sources tell too little: %d have types, %d have not", typed, untyped)
	}
}

// typedSource answers a source that has types.
func (d *dice) typedSource() *model {
	for {
		m := d.drawSource()
		if e, _ := m.scanned(); e == brew.OK && len(m.text()) <= 400 {
			return m
		}
	}
}

func TestP16ToP19AtRandom(t *testing.T) {
	d := &dice{6}
	count := &told{}
	for round := 0; round < 4000; round++ {
		m := d.typedSource()
		source := m.text()
		for try := 0; try < 6; try++ {
			input, fuel := d.input(), d.below(1+d.below(1000))
			w := &walk{m: m, input: input, fuel: fuel}
			out, value, e := w.run()
			count.ends[e]++
			count.numbers += strings.Count(out, " ")
			if gotOut, gotValue, gotE := brew.Eval(source, input, fuel); gotOut != out || gotValue != value || gotE != e {
				t.Fatalf("Eval(%q, %q, %d) = %q, %d, %d, want %q, %d, %d", source, input, fuel, gotOut, gotValue, gotE, out, value, e)
			}
			laterOut, laterValue, laterE := brew.Eval(source, input, fuel+20)
			fine := laterOut == out && laterValue == value && laterE == e
			if e == brew.ErrFuel {
				fine = strings.HasPrefix(laterOut, out)
			}
			if !fine {
				t.Fatalf("Eval(%q, %q, %d) = %q, %d, %d, but with 20 more fuel %q, %d, %d", source, input, fuel, out, value, e, laterOut, laterValue, laterE)
			}
		}
	}
	count.enough(t, 100)
}

// swap answers a source with some bytes changed for others that might stand there too.
func (d *dice) swap(source string) string {
	out := []byte(source)
	for n := d.below(3); n >= 0; n-- {
		at := d.below(len(out))
		for _, alike := range []string{"01234", "ABCD", "gx", "+-*/<=eo,", "zr567", "ln"} {
			if strings.IndexByte(alike, out[at]) >= 0 {
				out[at] = alike[d.below(len(alike))]
				break
			}
		}
	}
	return string(out)
}

// TestP1AndP2OfSources looks at the bounds of every answer, and at P2: the same call later answers the same.
func TestP1AndP2OfSources(t *testing.T) {
	type answers struct {
		e        brew.Errno
		at       int
		out      string
		value    int
		evalE    brew.Errno
		image    string
		compileE brew.Errno
	}
	call := func(source string) answers {
		a := answers{}
		a.e, a.at = brew.Scan(source)
		a.out, a.value, a.evalE = brew.Eval(source, source[:20%len(source)], 200)
		a.image, a.compileE = brew.Compile(source)
		return a
	}
	sources, kept := []string{}, []answers{}
	d := &dice{7}
	ends := [5]int{}
	for round := 0; round < 8000; round++ {
		source := d.swap(d.drawSource().text())
		if round%4 == 0 {
			source = d.scramble(source)
		}
		a := call(source)
		switch {
		case a.e < brew.OK || a.e > brew.ErrType || (a.e == brew.ErrLong) != (len(source) > 400) || a.at < 0 || a.at > len(source):
			t.Fatalf("%q: %+v", source, a)
		case (a.e == brew.OK || a.e == brew.ErrLong) && a.at != 0 || a.e == brew.ErrType && a.at > 6:
			t.Fatalf("%q: %+v", source, a)
		case a.compileE != a.e || (a.image == "") != (a.e != brew.OK):
			t.Fatalf("%q: %+v", source, a)
		case a.e != brew.OK && (a.evalE != a.e || a.out != "" || a.value != 0):
			t.Fatalf("%q: %+v", source, a)
		case a.e == brew.OK && a.evalE != brew.OK && (a.evalE < brew.ErrFuel || a.evalE == brew.ErrMemory || a.value != 0):
			t.Fatalf("%q: %+v", source, a)
		case a.e == brew.ErrForm:
			formPlace(t, brew.Scan, source, a.at)
		}
		ends[a.e]++
		sources, kept = append(sources, source), append(kept, a)
	}
	for i := len(kept) - 1; i >= 0; i-- {
		if later := call(sources[i]); later != kept[i] {
			t.Fatalf("P2: %q: the answers were %v, and later %v", sources[i], kept[i], later)
		}
	}
	for _, e := range []brew.Errno{brew.OK, brew.ErrForm, brew.ErrLink, brew.ErrType} {
		if ends[e] < 50 {
			t.Errorf("only %d sources come to %d", ends[e], e)
		}
	}
}
