package brew_test

import (
	"fmt"
	"strings"
	"testing"

	"brew/brew"
)

// thing is an object of the model; a value there is an int64 or a *thing, nil of which is null.
type thing struct {
	class  byte
	fields []any
}

type level struct {
	body   int
	at     int
	locals []any
	stack  []any
}

// walk is a run of a model as P8 to P13 tell it, or, of a source, as P16 to P18 do. A mistake among the types would
// fail the test by a panic.
type walk struct {
	m      *model
	tables [][]*state
	input  string
	cells  int
	fuel   int
	out    string
	levels []*level
	hidden bool // an object lay in such a slot when memory was looked at
}

func blank(types string) []any {
	list := []any{}
	for _, x := range types {
		if x == 'i' {
			list = append(list, int64(0))
		} else {
			list = append(list, (*thing)(nil))
		}
	}
	return list
}

func wrapped(n int64) int64 {
	for n >= 1<<31 {
		n -= ((n-1<<31)/(1<<32) + 1) * (1 << 32)
	}
	for n < -1<<31 {
		n += ((-1<<31-n-1)/(1<<32) + 1) * (1 << 32)
	}
	return n
}

// run ends early by a panic with the error.
func (w *walk) run() (out string, answer int, e brew.Errno) {
	defer func() {
		out = w.out
		if end := recover(); end != nil {
			e = end.(brew.Errno)
		}
	}()
	return "", int(w.body(len(w.m.bodies)-1, nil).(int64)), brew.OK
}

func (w *walk) body(number int, given []any) any {
	b := w.m.bodies[number]
	l := &level{body: number, locals: append(given, blank(b.locals[len(given):])...)}
	w.levels = append(w.levels, l)
	if b.root != nil {
		value := w.workOut(l, b.root)
		w.levels = w.levels[:len(w.levels)-1]
		return value
	}
	for {
		if w.fuel == 0 {
			panic(brew.ErrFuel)
		}
		w.fuel--
		in := b.code[l.at]
		next := l.at + 1
		switch in[0] {
		case 't':
			w.levels = w.levels[:len(w.levels)-1]
			return l.stack[len(l.stack)-1]
		case 'j':
			fmt.Sscanf(in[1:], "%d", &next)
		case 'f':
			if l.pop().(int64) == 0 {
				fmt.Sscanf(in[1:], "%d", &next)
			}
		default:
			w.plain(l, in)
		}
		l.at = next
	}
}

func (l *level) pop() any {
	top := l.stack[len(l.stack)-1]
	l.stack = l.stack[:len(l.stack)-1]
	return top
}

func (l *level) push(value any) { l.stack = append(l.stack, value) }

func (w *walk) plain(l *level, in string) {
	digit := int(in[len(in)-1]) - '0'
	switch in[0] {
	case 'k':
		l.push(int64(digit))
	case 'r':
		n := int64(-1)
		if w.input != "" {
			n, w.input = int64(w.input[0]), w.input[1:]
		}
		l.push(n)
	case 'w':
		w.out += fmt.Sprintf("%d ", l.pop().(int64))
	case 'l':
		l.push(l.locals[digit])
	case 's':
		l.locals[digit] = l.pop()
	case 'd':
		l.pop()
	case 'z':
		l.push((*thing)(nil))
	case 'n':
		if w.tables != nil {
			w.memory(in[1])
		}
		l.push(&thing{in[1], blank(w.m.fields[in[1]-'A'])})
	case 'g', 'p', 'c', 'x', 'e':
		w.reference(l, in, digit)
	default:
		second, first := l.pop().(int64), l.pop().(int64)
		l.push(wrapped(compute(in[0], first, second)))
	}
}

func (w *walk) reference(l *level, in string, digit int) {
	var second any
	if in[0] == 'p' || in[0] == 'c' || in[0] == 'e' {
		second = l.pop()
	}
	first := l.pop().(*thing)
	switch {
	case in[0] == 'e' && first == second.(*thing):
		l.push(int64(1))
	case in[0] == 'e':
		l.push(int64(0))
	case in[0] == 'x' && first != nil && !w.m.comesFrom(first.class, in[1]):
		panic(brew.ErrCast)
	case in[0] == 'x':
		l.push(first)
	case first == nil:
		panic(brew.ErrNull)
	case in[0] == 'g':
		l.push(first.fields[digit])
	case in[0] == 'p':
		first.fields[digit] = second
	case len(w.levels) == 12:
		panic(brew.ErrDeep)
	default:
		l.push(w.body(w.m.bodyFor(first.class, digit), []any{first, second}))
	}
}

func compute(letter byte, first int64, second int64) int64 {
	yes := false
	switch letter {
	case '+':
		return first + second
	case '-':
		return first - second
	case '*':
		return first * second
	case '/':
		if second == 0 {
			panic(brew.ErrDiv)
		}
		return first / second
	case '<':
		yes = first < second
	case '=':
		yes = first == second
	}
	if yes {
		return 1
	}
	return 0
}

func (m *model) bodyFor(class byte, method int) int {
	for {
		for i, b := range m.bodies[:len(m.bodies)-1] {
			if b.head[0] == class && b.head[1] == byte('0'+method) {
				return i
			}
		}
		class = m.parents[class-'A']
	}
}

// memory is P13.
func (w *walk) memory(class byte) {
	reached := map[*thing]bool{}
	var follow func(value any)
	follow = func(value any) {
		if o, isReference := value.(*thing); isReference && o != nil && !reached[o] {
			reached[o] = true
			for _, f := range o.fields {
				follow(f)
			}
		}
	}
	for _, l := range w.levels {
		s := w.tables[l.body][l.at]
		for i, value := range append(append([]any{}, l.stack...), l.locals...) {
			x := s.stack[:len(l.stack)] + s.locals
			if o, isReference := value.(*thing); x[i] == '-' && isReference && o != nil && !reached[o] {
				w.hidden = true
			}
			if x[i] != '-' {
				follow(value)
			}
		}
	}
	sum := 1 + len(w.m.fields[class-'A'])
	for o := range reached {
		sum += 1 + len(o.fields)
	}
	if sum > w.cells {
		panic(brew.ErrMemory)
	}
}

func (d *dice) input() string {
	bytes := make([]byte, d.below(41))
	for i := range bytes {
		bytes[i] = byte(d.below(2+254*d.below(2)) * d.below(2))
	}
	return string(bytes)
}

// told counts what the runs of a test have come to, so that it is seen if they tell too little.
type told struct {
	ends    [11]int
	hidden  int
	numbers int
}

func (c *told) enough(t *testing.T, each int) {
	t.Helper()
	for e := range c.ends {
		ended := e == 0 || e >= int(brew.ErrFuel) && e != int(brew.ErrMemory)
		if ended && c.ends[e] < each {
			t.Errorf("only %d runs end by %d: %+v", c.ends[e], e, c)
		}
	}
	if c.numbers < each {
		t.Errorf("the runs tell too little: %+v", c)
	}
}

func TestP8ToP13AtRandom(t *testing.T) {
	d := &dice{4}
	count := &told{}
	for round := 0; round < 12000; round++ {
		m := d.draw()
		tables := [][]*state{}
		for _, b := range m.bodies {
			if table, holds := m.least(b); holds {
				tables = append(tables, table)
			}
		}
		if len(tables) < len(m.bodies) {
			continue
		}
		for try := 0; try < 6; try++ {
			w := &walk{m: m, tables: tables, input: d.input(), cells: d.below(1 + d.below(101)), fuel: d.below(1 + d.below(1000))}
			sameRun(t, w, count)
		}
	}
	count.enough(t, 100)
	if count.ends[brew.ErrMemory] < 100 || count.hidden < 100 {
		t.Errorf("the runs tell too little of memory: %+v", count)
	}
}

// sameRun looks whether Run does what the model does, and whether it does the same with more fuel (P11).
func sameRun(t *testing.T, w *walk, count *told) {
	t.Helper()
	image, input, cells, fuel := w.m.text(), w.input, w.cells, w.fuel
	out, answer, e := w.run()
	count.ends[e]++
	if w.hidden {
		count.hidden++
	}
	count.numbers += strings.Count(out, " ")
	if gotOut, gotAnswer, gotE := brew.Run(image, input, cells, fuel); gotOut != out || gotAnswer != answer || gotE != e {
		t.Fatalf("Run(%q, %q, %d, %d) = %q, %d, %d, want %q, %d, %d", image, input, cells, fuel, gotOut, gotAnswer, gotE, out, answer, e)
	}
	laterOut, laterAnswer, laterE := brew.Run(image, input, cells, fuel+20)
	fine := laterOut == out && laterAnswer == answer && laterE == e
	if e == brew.ErrFuel {
		fine = strings.HasPrefix(laterOut, out)
	}
	if !fine {
		t.Fatalf("Run(%q, %q, %d, %d) = %q, %d, %d, but with 20 more fuel %q, %d, %d", image, input, cells, fuel, out, answer, e, laterOut, laterAnswer, laterE)
	}
}
