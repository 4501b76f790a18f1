// Package table: the types that the stack and the locals have at each instruction of a body.
package table

import "brew/text"

// State tells the types at one instruction; an instruction that no way leads to has none.
type State struct {
	Known  bool
	Stack  []byte // the lowest first
	Locals []byte
}

// Table has a state for each instruction of a body.
type Table struct {
	States []State
}

// builder holds a table that grows till it holds, or till it is found that none does.
type builder struct {
	text    *text.Text
	body    text.Body
	states  []State
	waiting []bool // the instructions whose state has changed since they were followed
	failed  bool
}

// Least answers the least table of a body that holds, and whether there is one.
func Least(t *text.Text, body text.Body) (Table, bool) {
	count := len(body.Items)
	b := builder{text: t, body: body, states: make([]State, count), waiting: make([]bool, count)}
	b.reach(0, State{Known: true, Stack: []byte{}, Locals: body.Locals})
	// The loop ends: an instruction waits only after its state has become known or a type of it has risen,
	// and a type rises no more than once for each class and twice beside.
	at := b.firstWaiting()
	for at >= 0 && !b.failed {
		b.waiting[at] = false
		b.follow(at)
		at = b.firstWaiting()
	}
	if b.failed {
		return Table{}, false
	}
	return Table{States: b.states}, true
}

func (b *builder) firstWaiting() int {
	for i := 0; i < len(b.waiting); i++ {
		if b.waiting[i] {
			return i
		}
	}
	return -1
}

// follow brings the state behind an instruction to where it goes on. If an instruction refuses its state now,
// it refuses every greater one, so no table holds.
func (b *builder) follow(at int) {
	item := b.body.Items[at]
	behind, accepted := stateBehind(b.text, b.body, item, b.states[at])
	if !accepted {
		b.failed = true
		return
	}
	switch item.Letter {
	case 't':
	case 'j':
		b.reach(item.Number, behind)
	case 'f':
		b.reach(item.Number, behind)
		b.reach(at+1, behind)
	default:
		b.reach(at+1, behind)
	}
}

// reach makes a state fit that of an instruction.
func (b *builder) reach(at int, state State) {
	if at < 0 || at >= len(b.states) {
		b.failed = true
		return
	}
	if !b.states[at].Known {
		b.states[at] = copyOf(state)
		b.waiting[at] = true
		return
	}
	if len(b.states[at].Stack) != len(state.Stack) {
		b.failed = true
		return
	}
	stack := meetings(b.text, b.states[at].Stack, state.Stack)
	locals := meetings(b.text, b.states[at].Locals, state.Locals)
	if same(stack, b.states[at].Stack) && same(locals, b.states[at].Locals) {
		return
	}
	b.states[at] = State{Known: true, Stack: stack, Locals: locals}
	b.waiting[at] = true
}

// meetings answers the meeting of each type of one list and the type in its place in the other.
func meetings(t *text.Text, first []byte, second []byte) []byte {
	met := []byte{}
	for i := 0; i < len(first) && i < len(second); i++ {
		meeting := t.Meeting(first[i], second[i])
		met = append(met, meeting)
	}
	return met
}

func same(first []byte, second []byte) bool {
	return string(first) == string(second)
}

// stateBehind answers the state behind an instruction, and whether the one ahead of it has what it takes.
func stateBehind(t *text.Text, body text.Body, item text.Item, ahead State) (State, bool) {
	state := copyOf(ahead)
	asked := t.Takes(item, body.Answer)
	rest := len(state.Stack) - len(asked)
	if rest < 0 {
		return State{}, false
	}
	for i := 0; i < len(asked); i++ {
		if !t.Suits(state.Stack[rest+i], asked[i]) {
			return State{}, false
		}
	}
	if item.Letter == 's' {
		if item.Number < 0 || item.Number >= len(state.Locals) {
			return State{}, false
		}
		state.Locals[item.Number] = state.Stack[rest]
	}
	laid := t.Lays(item, state.Locals)
	if item.Letter == 'l' && laid == text.Unusable {
		return State{}, false
	}
	state.Stack = state.Stack[:rest]
	if laid != text.Nothing {
		state.Stack = append(state.Stack, laid)
	}
	return state, true
}

func copyOf(state State) State {
	stack := append([]byte{}, state.Stack...)
	locals := append([]byte{}, state.Locals...)
	return State{Known: state.Known, Stack: stack, Locals: locals}
}

// Write answers a table in letters.
func Write(table Table) string {
	out := []byte{}
	for i := 0; i < len(table.States); i++ {
		state := table.States[i]
		if state.Known {
			out = append(out, state.Stack...)
			out = append(out, '|')
			out = append(out, state.Locals...)
		} else {
			out = append(out, '?')
		}
		out = append(out, ',')
	}
	out = append(out, ';')
	return string(out)
}
