package brew_test

import (
	"fmt"
	"strings"
	"testing"

	"brew/brew"
)

// dice makes the same numbers in every run of the tests.
type dice struct{ state uint64 }

func (d *dice) below(n int) int {
	d.state = d.state*6364136223846793005 + 1442695040888963407
	return int((d.state >> 33) % uint64(n))
}

func (d *dice) of(list []string) string { return list[d.below(len(list))] }

// model is an image or a source in parts, and what the document says of types, word for word.
type model struct {
	parents []byte
	fields  []string // with the parent's
	classes string
	methods []string
	bodies  []*block
}

type block struct {
	head   string
	answer byte
	locals string
	code   []string // instructions, or nodes
	root   *tree    // of a source
}

func (m *model) text() string {
	s := m.classes + ";"
	for _, method := range m.methods {
		s += method + "."
	}
	s += ";"
	for i, b := range m.bodies {
		if i == len(m.bodies)-1 {
			s += ";"
		}
		s += b.head + ":"
		for _, item := range b.code {
			s += item
		}
		s += "."
	}
	return s
}

func (m *model) comesFrom(class byte, ancestor byte) bool {
	for class != '-' {
		if class == ancestor {
			return true
		}
		class = m.parents[class-'A']
	}
	return false
}

func (m *model) isClass(x byte) bool { return x >= 'A' && int(x-'A') < len(m.parents) }

func (m *model) fits(x byte, y byte) bool {
	return x == y || y == '-' || x == 'z' && m.isClass(y) || m.isClass(x) && m.isClass(y) && m.comesFrom(x, y)
}

func (m *model) meeting(x byte, y byte) byte {
	all := "iz-ABCD"[:3+len(m.parents)]
	for _, a := range []byte(all) {
		least := m.fits(x, a) && m.fits(y, a)
		for _, b := range []byte(all) {
			if m.fits(x, b) && m.fits(y, b) && !m.fits(a, b) {
				least = false
			}
		}
		if least {
			return a
		}
	}
	return '?'
}

type state struct{ stack, locals string }

// effect answers what an instruction asks for ("r" a reference, "-" any), and what it lays.
func (m *model) effect(b *block, s state, in string) (string, string) {
	switch in[0] {
	case 'k', 'r':
		return "", "i"
	case 'w', 'f':
		return "i", ""
	case 'l':
		return "", s.locals[in[1]-'0':][:1]
	case 's', 'd':
		return "-", ""
	case 'e':
		return "rr", "i"
	case 'n':
		return "", in[1:2]
	case 'z':
		return "", "z"
	case 'g':
		return in[1:2], m.fields[in[1]-'A'][in[2]-'0':][:1]
	case 'p':
		return in[1:2] + m.fields[in[1]-'A'][in[2]-'0':][:1], ""
	case 'c':
		return in[1:2] + m.methods[in[2]-'0'][:1], m.methods[in[2]-'0'][1:]
	case 'x':
		return "r", in[1:2]
	case 'j':
		return "", ""
	case 't':
		return string([]byte{b.answer}), ""
	}
	return "ii", "i"
}

// behind answers the state behind an instruction, where it goes on, and whether it can take what is there.
func (m *model) behind(b *block, at int, s state) (state, []int, bool) {
	in := b.code[at]
	asked, laid := m.effect(b, s, in)
	rest := len(s.stack) - len(asked)
	if rest < 0 || laid == "-" {
		return s, nil, false
	}
	for i := range asked {
		have := s.stack[rest+i]
		if asked[i] == 'r' && have != 'z' && !m.isClass(have) || asked[i] != 'r' && !m.fits(have, asked[i]) {
			return s, nil, false
		}
	}
	if in[0] == 's' {
		n := int(in[1] - '0')
		s.locals = s.locals[:n] + s.stack[rest:] + s.locals[n+1:]
	}
	s.stack = s.stack[:rest] + laid
	target := at + 1
	if in[0] == 'j' || in[0] == 'f' {
		fmt.Sscanf(in[1:], "%d", &target)
	}
	switch in[0] {
	case 't':
		return s, nil, true
	case 'f':
		return s, []int{target, at + 1}, target < len(b.code) && at+1 < len(b.code)
	}
	return s, []int{target}, target < len(b.code)
}

func (m *model) meetingOfAll(x string, y string) string {
	out := []byte{}
	for i := range x {
		out = append(out, m.meeting(x[i], y[i]))
	}
	return string(out)
}

func (m *model) allFit(x string, y string) bool {
	for i := range x {
		if !m.fits(x[i], y[i]) {
			return false
		}
	}
	return len(x) == len(y)
}

// least follows every way alone, and lets the states meet only then. Every table that holds has room for each way,
// so this one is the least, if it holds.
func (m *model) least(b *block) ([]*state, bool) {
	table := make([]*state, len(b.code))
	type spot struct {
		at int
		s  state
	}
	start := spot{0, state{"", b.locals}}
	seen := map[spot]bool{start: true}
	for list := []spot{start}; len(list) > 0; list = list[1:] {
		now := list[0]
		if met := table[now.at]; met == nil {
			first := now.s
			table[now.at] = &first
		} else if len(met.stack) != len(now.s.stack) {
			return nil, false
		} else {
			*met = state{m.meetingOfAll(met.stack, now.s.stack), m.meetingOfAll(met.locals, now.s.locals)}
		}
		s, next, fine := m.behind(b, now.at, now.s)
		if !fine {
			return nil, false
		}
		for _, at := range next {
			if there := (spot{at, s}); !seen[there] {
				seen[there] = true
				list = append(list, there)
			}
		}
	}
	return table, m.holds(b, table)
}

// holds is P5.
func (m *model) holds(b *block, table []*state) bool {
	if table[0] == nil || table[0].stack != "" || !m.allFit(b.locals, table[0].locals) {
		return false
	}
	for at, s := range table {
		if s == nil {
			continue
		}
		out, next, fine := m.behind(b, at, *s)
		for _, there := range next {
			fine = fine && table[there] != nil
			fine = fine && m.allFit(out.stack, table[there].stack) && m.allFit(out.locals, table[there].locals)
		}
		if !fine {
			return false
		}
	}
	return true
}

func written(table []*state) string {
	out := ""
	for _, s := range table {
		if s == nil {
			out += "?,"
		} else {
			out += s.stack + "|" + s.locals + ","
		}
	}
	return out + ";"
}

func (m *model) expected() (string, brew.Errno, int) {
	out := ""
	for i, b := range m.bodies {
		table, holds := m.least(b)
		if !holds {
			return "", brew.ErrType, i
		}
		out += written(table)
	}
	return out, brew.OK, 0
}

func (d *dice) types(most int, classes int) string {
	out := ""
	for i := d.below(most + 1); i > 0; i-- {
		out += "iABCD"[d.below(classes+1):][:1]
	}
	return out
}

// draw makes an image whose types often are right.
func (d *dice) draw() *model {
	m := d.drawHeads()
	for _, b := range m.bodies {
		m.fill(d, b)
	}
	return m
}

// drawHeads makes a text in whose bodies nothing is to be done.
func (d *dice) drawHeads() *model {
	m := &model{}
	for i := d.below(5); len(m.parents) < i; {
		n := len(m.parents)
		parent, fields := byte('-'), ""
		if p := d.below(n + 2); p < n {
			parent, fields = byte('A'+p), m.fields[p]
		}
		own := d.types(2, n+1)
		m.parents = append(m.parents, parent)
		m.fields = append(m.fields, fields+own)
		m.classes += string([]byte{parent}) + own + "."
	}
	n := len(m.parents)
	for i := d.below(4); i > 0; i-- {
		m.methods = append(m.methods, "iABCD"[d.below(n+1):][:1]+"iABCD"[d.below(n+1):][:1])
	}
	for i := 0; i < n*len(m.methods); i++ {
		if class, method := i/len(m.methods), i%len(m.methods); d.below(3) > 0 && len(m.bodies) < 6 {
			b := &block{head: fmt.Sprintf("%c%d", 'A'+class, method), answer: m.methods[method][1]}
			further := d.types(3, n)
			b.head += further
			b.locals = string([]byte{byte('A' + class)}) + m.methods[method][:1] + further
			m.bodies = append(m.bodies, b)
		}
	}
	further := d.types(3, n)
	m.bodies = append(m.bodies, &block{head: further, answer: 'i', locals: further})
	return m
}

func (m *model) has(class byte, method int) bool {
	for _, b := range m.bodies {
		if len(b.head) > 1 && b.head[0] >= 'A' && b.head[0] <= 'D' && b.head[1] == byte('0'+method) && m.comesFrom(class, b.head[0]) {
			return true
		}
	}
	return false
}

// every answers all instructions but jumps and `t` that link.
func (m *model) every(b *block) []string {
	all := []string{"k0", "k7", "r", "w", "+", "-", "*", "/", "<", "=", "e", "z", "d"}
	for i := range b.locals {
		all = append(all, fmt.Sprintf("l%d", i), fmt.Sprintf("s%d", i), fmt.Sprintf("s%d", i))
	}
	for i := range m.parents {
		class := byte('A' + i)
		all = append(all, "n"+string(class), "n"+string(class), "x"+string(class))
		for k := range m.fields[i] {
			all = append(all, fmt.Sprintf("g%c%d", class, k), fmt.Sprintf("p%c%d", class, k))
		}
		for k := range m.methods {
			if m.has(class, k) {
				all = append(all, fmt.Sprintf("c%c%d", class, k))
			}
		}
	}
	return all
}

// value answers an instruction that lays what fits a type.
func (m *model) value(d *dice, now state, asked byte) string {
	all := []string{"k3", "r"}
	if asked != 'i' {
		all = []string{"z"}
	}
	for i := range m.parents {
		if class := byte('A' + i); m.fits(class, asked) {
			all = append(all, "n"+string(class), "n"+string(class))
		}
	}
	for i := range now.locals {
		if now.locals[i] != '-' && m.fits(now.locals[i], asked) {
			in := fmt.Sprintf("l%d", i)
			all = append(all, in, in, in)
		}
	}
	return d.of(all)
}

// dealing answers instructions that call a method or change a field, or none.
func (m *model) dealing(d *dice, now state) []string {
	if len(m.parents) == 0 {
		return nil
	}
	i := d.below(len(m.parents))
	class := byte('A' + i)
	object := m.value(d, now, class)
	if n := d.below(3); n < len(m.methods) && m.has(class, n) {
		return []string{object, m.value(d, now, m.methods[n][0]), fmt.Sprintf("c%c%d", class, n)}
	}
	if n := d.below(3); n < len(m.fields[i]) {
		return []string{object, m.value(d, now, m.fields[i][n]), fmt.Sprintf("p%c%d", class, n)}
	}
	return nil
}

// fill goes along a straight way, and notes how high the stack is, so that most jumps can meet it.
func (m *model) fill(d *dice, b *block) {
	all := m.every(b)
	now := state{"", b.locals}
	heights := []int{}
	planned := []string{}
	for size := 3 + d.below(14); len(b.code) < size; {
		if len(planned) == 0 && d.below(6) == 0 {
			planned = m.dealing(d, now)
		}
		in := d.of(all)
		if len(planned) > 0 {
			in, planned = planned[0], planned[1:]
			b.code, heights = append(b.code, in), append(heights, len(now.stack))
			now, _, _ = m.behind(&block{code: []string{in, "t"}}, 0, now)
			continue
		}
		if d.below(4) == 0 && len(now.stack) > 0 && now.stack[len(now.stack)-1] == 'i' {
			in = "f??"
		} else if d.below(40) == 0 {
			in = "j??"
		}
		alone := &block{code: []string{in, "t"}}
		out, _, fine := m.behind(alone, 0, now)
		asked, _ := m.effect(alone, now, in)
		if !fine && (len(asked) > len(now.stack) || d.below(150) > 0) {
			continue
		}
		b.code = append(b.code, in)
		heights = append(heights, len(now.stack))
		now = out
	}
	for len(now.stack) > 0 {
		b.code, heights = append(b.code, "d"), append(heights, len(now.stack))
		now.stack = now.stack[1:]
	}
	end := map[bool]string{true: "k1", false: "z"}[b.answer == 'i']
	b.code, heights = append(b.code, end, "t"), append(heights, 0, 1)
	for at, in := range b.code {
		if in[1:] == "??" {
			b.code[at] = in[:1] + fmt.Sprintf("%02d", target(d, heights, at, in[0] == 'f'))
		}
	}
}

func target(d *dice, heights []int, at int, takes bool) int {
	height := heights[at]
	if takes {
		height--
	}
	for try := 0; try < 30; try++ {
		there := d.below(len(heights))
		if heights[there] == height {
			return there
		}
	}
	return d.below(len(heights))
}

func TestP5ToP7AtRandom(t *testing.T) {
	d := &dice{1}
	typed, untyped, unusable, unknown := 0, 0, 0, 0
	for round := 0; round < 20000; round++ {
		m := d.draw()
		image := m.text()
		types, e, at := m.expected()
		if gotE, gotAt := brew.Check(image); gotE != e || gotAt != at {
			t.Fatalf("Check(%q) = %d, %d, want %d, %d", image, gotE, gotAt, e, at)
		}
		if got, gotE := brew.Types(image); gotE != e || got != types {
			t.Fatalf("Types(%q) =\n%q, %d, want\n%q, %d", image, got, gotE, types, e)
		}
		if e == brew.OK {
			typed++
		} else {
			untyped++
		}
		unusable += strings.Count(types, "-")
		unknown += strings.Count(types, "?")
	}
	if typed < 2000 || untyped < 2000 || unusable < 1000 || unknown < 1000 {
		t.Errorf("the images tell too little: %d typed, %d not; %d types `-`, %d instructions without a state", typed, untyped, unusable, unknown)
	}
}

// scramble answers an image with some bytes changed, left out or put in.
func (d *dice) scramble(image string) string {
	out := []byte(image)
	for n := d.below(4); n >= 0; n-- {
		at := d.below(len(out) + 1)
		b := byte(d.below(256))
		if d.below(8) > 0 {
			b = ";:.-iABCDklnsgpcxrwdjft+*/<=ez0123456789,o"[d.below(42)]
		}
		switch {
		case at < len(out) && d.below(2) == 0:
			out[at] = b
		case at < len(out) && d.below(2) == 0:
			out = append(out[:at], out[at+1:]...)
		default:
			out = append(out[:at], append([]byte{b}, out[at:]...)...)
		}
	}
	return string(out)
}

// TestP1AndP2AtRandom looks at the bounds of every answer, and at P2: the same call later answers the same.
func TestP1AndP2AtRandom(t *testing.T) {
	type answers struct {
		image string
		e     brew.Errno
		at    int
		types string
		out   string
		value int
		runE  brew.Errno
	}
	kept := []answers{}
	d := &dice{2}
	for round := 0; round < 20000; round++ {
		image := d.scramble(d.draw().text())
		e, at := brew.Check(image)
		types, typesE := brew.Types(image)
		out, value, runE := brew.Run(image, image[:20%len(image)], 50, 200)
		switch {
		case e != typesE || (e == brew.OK) != (types != ""):
			t.Fatalf("%q: Check answers %d, Types %q, %d", image, e, types, typesE)
		case e < brew.OK || e == brew.ErrLong || e > brew.ErrType || at < 0 || at > len(image):
			t.Fatalf("Check(%q) = %d, %d", image, e, at)
		case e == brew.OK && at != 0 || e == brew.ErrType && at > 6:
			t.Fatalf("Check(%q) = %d, %d", image, e, at)
		case e != brew.OK && (out != "" || value != 0 || runE != e) || e == brew.OK && runE != brew.OK && (runE < brew.ErrFuel || value != 0):
			t.Fatalf("%q: Check answers %d, Run %q, %d, %d", image, e, out, value, runE)
		case e == brew.ErrForm:
			formPlace(t, brew.Check, image, at)
		}
		kept = append(kept, answers{image, e, at, types, out, value, runE})
	}
	for i := len(kept) - 1; i >= 0; i-- {
		c := kept[i]
		e, at := brew.Check(c.image)
		types, _ := brew.Types(c.image)
		out, value, runE := brew.Run(c.image, c.image[:20%len(c.image)], 50, 200)
		if later := (answers{c.image, e, at, types, out, value, runE}); later != c {
			t.Fatalf("P2: the answers were %v, and later %v", c, later)
		}
	}
}

// formPlace looks at a place of ErrForm by what stands ahead of it and by the byte there.
func formPlace(t *testing.T, call func(string) (brew.Errno, int), text string, at int) {
	t.Helper()
	if e, place := call(text[:at]); e == brew.ErrForm && place != at {
		t.Fatalf("of %q: %d, %d, but the whole %q fails at %d", text[:at], e, place, text, at)
	}
	if at < len(text) {
		if e, place := call(text[:at+1]); e != brew.ErrForm || place != at {
			t.Fatalf("of %q: %d, %d, but the whole %q fails at %d", text[:at+1], e, place, text, at)
		}
	}
}

// TestP1AllCalls calls everything with strings and numbers of all kinds: no call may panic or go on for ever.
func TestP1AllCalls(t *testing.T) {
	texts := []string{"", ";", ";;;", ";;;:", ";;;:k0t.", ";;;:j00.", ";;;:0.", ";;;:o1w7.", longSource(400), "\x00", "\xff\xfe", "é", long(2000), string(make([]byte, 1<<20))}
	numbers := []int{0, 1, -1, 12, 100, 101, 4000, 4001, 1<<31 - 1, -1 << 31, 1<<63 - 1, -1 << 63}
	d := &dice{3}
	for i := 0; i < 200; i++ {
		bytes := make([]byte, d.below(50))
		for k := range bytes {
			bytes[k] = byte(d.below(256))
		}
		texts = append(texts, string(bytes))
	}
	for _, text := range texts {
		brew.Check(text)
		brew.Types(text)
		brew.Scan(text)
		brew.Compile(text)
		for _, n := range numbers {
			for _, k := range numbers {
				brew.Run(text, text, n, k)
			}
			brew.Eval(text, text, n)
		}
	}
}
