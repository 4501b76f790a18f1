package brew_test

import (
	"strings"
	"testing"

	"brew/brew"
)

type ran struct {
	image  string
	input  string
	cells  int
	fuel   int
	out    string
	answer int
	e      brew.Errno
}

func runAll(t *testing.T, list []ran) {
	t.Helper()
	for _, c := range list {
		if out, answer, e := brew.Run(c.image, c.input, c.cells, c.fuel); out != c.out || answer != c.answer || e != c.e {
			t.Errorf("Run(%q, %q, %d, %d) = %q, %d, %d, want %q, %d, %d",
				c.image, c.input, c.cells, c.fuel, out, answer, e, c.out, c.answer, c.e)
		}
	}
}

// answers runs main bodies that answer a number, without locals.
func answers(t *testing.T, classes string, list []ran) {
	t.Helper()
	for i := range list {
		list[i].image = classes + ";;;:" + list[i].image + "t."
		list[i].cells = 100
		list[i].fuel = 4000
	}
	runAll(t, list)
}

func TestP8Limits(t *testing.T) {
	image := ";;;:k7t."
	full := strings.Repeat("x", 40)
	runAll(t, []ran{
		{image, full, 100, 4000, "", 7, brew.OK},
		{image, "", 0, 2, "", 7, brew.OK},
		{image, full + "x", 100, 4000, "", 0, brew.ErrLong},
		{image, strings.Repeat("x", 1<<20), 100, 4000, "", 0, brew.ErrLong},
		{image, "", -1, 4000, "", 0, brew.ErrLong},
		{image, "", 101, 4000, "", 0, brew.ErrLong},
		{image, "", 100, -1, "", 0, brew.ErrLong},
		{image, "", 100, 4001, "", 0, brew.ErrLong},
		{image, "", 1<<63 - 1, 9, "", 0, brew.ErrLong},
		{image, "", 9, -1 << 63, "", 0, brew.ErrLong},
	})
}

func TestP8ErrorOfCheck(t *testing.T) {
	for _, c := range []struct {
		image string
		e     brew.Errno
	}{
		{strings.Repeat("x", 2001), brew.ErrLong},
		{strings.Repeat("x", 2000), brew.ErrForm},
		{"", brew.ErrForm},
		{";;;:k7t", brew.ErrForm},
		{";;;:k7t.x", brew.ErrForm},
		{";;;:k7wj09.", brew.ErrLink},
		{";;;:k7wzt.", brew.ErrType},
	} {
		runAll(t, []ran{
			{c.image, "", 9, 9, "", 0, c.e},
			{c.image, "", 0, 0, "", 0, c.e},
			{c.image, "", 101, 9, "", 0, brew.ErrLong},
			{c.image, "", 9, 4001, "", 0, brew.ErrLong},
			{c.image, strings.Repeat("x", 41), 9, 9, "", 0, brew.ErrLong},
		})
	}
}

func TestP8LocalsOfMain(t *testing.T) {
	runAll(t, []ran{
		{"-.;;;iAi:l0wl2wl1zet.", "", 0, 9, "0 0 ", 1, brew.OK},
		{"-.;;;A:l0nAet.", "", 1, 9, "", 0, brew.OK},
	})
}

func TestP9(t *testing.T) {
	runAll(t, []ran{
		{";;;:k0wk9k0k1-w+t.", "", 0, 0, "", 0, brew.ErrType},
		{";;;:k0wk0k1-wk9k9*wk0k9-t.", "", 0, 40, "0 -1 81 ", -9, brew.OK},
		{";;;:k4wk5k1k0/t.", "", 0, 40, "4 ", 0, brew.ErrDiv},
		{"-i.;;;:k4wk5wzgA0t.", "", 0, 40, "4 5 ", 0, brew.ErrNull},
		{"-i.;;;:k4wnAdk5t.", "", 1, 40, "4 ", 0, brew.ErrMemory},
		{"-.A.;;;:k4wnAxBdk5t.", "", 1, 40, "4 ", 0, brew.ErrCast},
		{"-.;ii.;A0:l1wl0l1k1+cA0t.;:nAk1cA0t.", "", 1, 400, "1 2 3 4 5 6 7 8 9 10 11 ", 0, brew.ErrDeep},
		{"-.;ii.;A0:k3wl1t.;:k1wnAk5cA0wk2wk8t.", "", 1, 400, "1 3 5 2 ", 8, brew.OK},
	})
}

// TestWordsNumbers has the instructions that lay numbers.
func TestWordsNumbers(t *testing.T) {
	least := "k0k8k8*k8*k8*k8*k8k8*k8*k8*k8*k2**-"
	most := least + "k1-"
	answers(t, "", []ran{
		{image: "k0"}, {image: "k9", answer: 9},
		{image: "r", answer: -1}, {image: "rr+", input: "\x80\x7f", answer: 255}, {image: "rdr", input: "a", answer: -1},
		{image: least, answer: -1 << 31}, {image: most, answer: 1<<31 - 1},
		{image: most + "k1+", answer: -1 << 31}, {image: most + most + "+", answer: -2},
		{image: least + least + "-"}, {image: "k0" + least + "-", answer: -1 << 31},
		{image: least + "k2*"}, {image: most + most + "*", answer: 1}, {image: least + most + "*", answer: -1 << 31},
		{image: least + "k0k1-*", answer: -1 << 31}, {image: least + "k0k1-/", answer: -1 << 31},
		{image: most + "k0k1-/", answer: -(1<<31 - 1)}, {image: least + least + "/", answer: 1},
		{image: "k7k2/", answer: 3}, {image: "k0k7-k2/", answer: -3}, {image: "k7k0k2-/", answer: -3},
		{image: "k0k7-k0k2-/", answer: 3}, {image: "k0k1-k2/"}, {image: "k0k5/"},
		{image: "k9k2-", answer: 7}, {image: "k2k9-", answer: -7},
		{image: "k2k9<", answer: 1}, {image: "k9k2<"}, {image: "k2k2<"}, {image: least + most + "<", answer: 1}, {image: most + least + "<"},
		{image: "k2k2=", answer: 1}, {image: "k2k3="}, {image: most + least + "="},
	})
}

// TestWordsReferences has the instructions that deal with objects.
func TestWordsReferences(t *testing.T) {
	answers(t, "-i.AA.-iB.", []ran{
		{image: "zze", answer: 1}, {image: "nAze"}, {image: "znAe"}, {image: "nAnAe"}, {image: "nAnCe"},
		{image: "nAgA0"}, {image: "nBgB0"}, {image: "nBgA0"}, {image: "nBgB1ze", answer: 1},
		{image: "zxAze", answer: 1}, {image: "zxCze", answer: 1}, {image: "nBxAgA0"}, {image: "nBxBgB0"},
		{image: "nAxB", e: brew.ErrType}, {image: "nAxBd", e: brew.ErrType},
		{image: "nAxBze", e: brew.ErrCast}, {image: "nAxCze", e: brew.ErrCast}, {image: "nCxAze", e: brew.ErrCast},
		{image: "nBxAxBgA0"}, {image: "nCgC1gB1gA0", e: brew.ErrNull},
	})
	runAll(t, []ran{
		// The fields of an object are its own alone, and a parent's field is the same field.
		{"-i.Ai.;;;ABB:nBs1nBs2l1k4pA0l1k5pB1l2k6pB0l1gA0wl1gB1wl2gA0wl2gB1t.", "", 9, 40, "4 5 6 ", 0, brew.OK},
		{"-iA.;;;AA:nAs0nAs1l0l1pA1l1k7pA0l0gA1l1ewl0gA1gA0wl1gA1zet.", "", 9, 40, "1 7 ", 1, brew.OK},
		// What `x` answers is the same reference.
		{"-i.A.;;;A:nBs0l0xBk3pB0l0l0xBewl0gA0t.", "", 9, 40, "1 ", 3, brew.OK},
		{"-.;;;AA:nAs0l0s1l0l1ewnAs1l0l1et.", "", 9, 40, "1 ", 0, brew.OK},
	})
}

// TestWordsWaysOn has the instructions that go on elsewhere.
func TestWordsWaysOn(t *testing.T) {
	runAll(t, []ran{
		{";;;:j03k1tk2t.", "", 0, 9, "", 2, brew.OK},
		{";;;:rf04k1tk2t.", "\x00", 0, 9, "", 2, brew.OK},
		{";;;:rf04k1tk2t.", "\x01", 0, 9, "", 1, brew.OK},
		{";;;:rf04k1tk2t.", "", 0, 9, "", 1, brew.OK},
		{";;;i:l0wl0k1+s0l0k4<f11j00l0t.", "", 0, 99, "0 1 2 3 ", 4, brew.OK},
		{";;;:k1k2k3dwt.", "", 0, 9, "2 ", 1, brew.OK},
	})
}

func TestP10(t *testing.T) {
	runAll(t, []ran{
		{";;;:k1t.", "", 0, 0, "", 0, brew.ErrFuel},
		{";;;:k1t.", "", 0, 1, "", 0, brew.ErrFuel},
		{";;;:k1t.", "", 0, 2, "", 1, brew.OK},
		{";;;:k1t.", "", 0, 3, "", 1, brew.OK},
		// The step that ends a run by another error has been made, if there is fuel for it.
		{";;;:k1k0/t.", "", 0, 2, "", 0, brew.ErrFuel},
		{";;;:k1k0/t.", "", 0, 3, "", 0, brew.ErrDiv},
		{"-.;;;:nAdk0t.", "", 0, 0, "", 0, brew.ErrFuel},
		{"-.;;;:nAdk0t.", "", 0, 1, "", 0, brew.ErrMemory},
		// Jumps, and the instructions of called bodies, are steps too.
		{";;;:j01j02k0t.", "", 0, 3, "", 0, brew.ErrFuel},
		{";;;:j01j02k0t.", "", 0, 4, "", 0, brew.OK},
		{"-.;ii.;A0:l1k1+t.;:nAk5cA0t.", "", 1, 7, "", 0, brew.ErrFuel},
		{"-.;ii.;A0:l1k1+t.;:nAk5cA0t.", "", 1, 8, "", 6, brew.OK},
		{";;;:k1wj00.", "", 0, 4000, strings.Repeat("1 ", 1333), 0, brew.ErrFuel},
	})
}

// TestP11 runs with every fuel up to where all runs have ended.
func TestP11(t *testing.T) {
	for _, c := range []ran{
		{image: ";;;i:l0wl0k1+s0l0k4<f11j00l0t.", out: "0 1 2 3 ", answer: 4, fuel: 45},
		{image: "-.;ii.;A0:l1wl0l1k1+cA0t.;:nAk1cA0t.", out: "1 2 3 4 5 6 7 8 9 10 11 ", e: brew.ErrDeep, fuel: 80},
		{image: "-iA.;;;A:nAs0k5wl0l0pA1l0gA1gA1gA1gA0wl0gA1k6pA0k7k0/t.", out: "5 0 ", e: brew.ErrDiv, fuel: 20},
		{image: "-A.;;;A:k1wnAs0l0gA0gA0dk0t.", out: "1 ", e: brew.ErrNull, fuel: 7},
	} {
		last := ""
		for fuel := 0; fuel <= c.fuel+20; fuel++ {
			out, answer, e := brew.Run(c.image, "", 20, fuel)
			if fuel >= c.fuel && (out != c.out || answer != c.answer || e != c.e) {
				t.Errorf("Run(%q) with fuel %d: %q, %d, %d", c.image, fuel, out, answer, e)
			}
			if fuel < c.fuel && (e != brew.ErrFuel || answer != 0) || !strings.HasPrefix(out, last) {
				t.Errorf("Run(%q) with fuel %d: %q, %d, %d", c.image, fuel, out, answer, e)
			}
			last = out
		}
	}
}

func TestP12(t *testing.T) {
	// Method 0 calls itself as often as its argument says, and then does something.
	deep := "-i.A.;ii.;A0B:l1f08l0l1k1-cA0t"
	runAll(t, []ran{
		{"-i.;;;:zgA0t.", "", 9, 9, "", 0, brew.ErrNull},
		{"-i.;;;:zk1pA0k0t.", "", 9, 9, "", 0, brew.ErrNull},
		{"-i.;;;A:l0k1pA0k0t.", "", 9, 9, "", 0, brew.ErrNull},
		{"-i.;ii.;A0:l1t.;:zk1cA0t.", "", 9, 9, "", 0, brew.ErrNull},
		{"-A.;;;:nAgA0gA0dk0t.", "", 9, 9, "", 0, brew.ErrNull},
		{";;;:k0k0/t.", "", 9, 9, "", 0, brew.ErrDiv},
		{";;;:k9k0/t.", "", 9, 9, "", 0, brew.ErrDiv},
		{"-.A.A.;;;:nBxCdk0t.", "", 9, 9, "", 0, brew.ErrCast},
		{"-.A.A.;;;:nAxCdk0t.", "", 9, 9, "", 0, brew.ErrCast},
		{"-.A.B.;;;:nCxAdnCxBdnCxCdk0t.", "", 9, 19, "", 0, brew.OK},
		// Twelve bodies may have begun, the main one among them; a thirteenth may not, whatever it would do.
		{deep + "l1t.;:nArcA0t.", "\x0a", 9, 400, "", 0, brew.OK},
		{deep + "l1t.;:nArcA0t.", "\x0b", 9, 400, "", 0, brew.ErrDeep},
		{deep + "zk0cA0t.;:nArcA0t.", "\x0a", 9, 400, "", 0, brew.ErrNull},
		{deep + "l0k0cA0t.;:nArcA0t.", "\x09", 9, 400, "", 0, brew.ErrDeep},
		// Bodies that have ended do not count.
		{"-.;ii.;A0:l1t.;Ai:nAs0l1wl0l1k1+cA0s1l1r<f15j02k0t.", strings.Repeat("\xff", 20), 9, 400,
			"0 1 2 3 4 5 6 7 8 9 10 11 12 13 14 15 16 17 18 19 20 ", 0, brew.OK},
		{deep + "l1t.;Ai:nAs0l0k9k1+cA0wl0k9cA0wl0k9k1+cA0t.", "", 9, 900, "0 0 ", 0, brew.OK},
		// A called body's locals: the object, the argument, then 0 and null.
		{"-i.;ii.;A0iA:l0gA0wl1wl2wl3zewl1t.;A:nAs0l0k8pA0l0k5cA0t.", "", 9, 99, "8 5 0 1 ", 5, brew.OK},
		// Each call has locals of its own.
		{"-.;ii.;A0i:l2wl1k1+s2l1k2<f14l0l2cA0dl1wl2t.;:nAk0cA0t.", "", 9, 99, "0 0 0 2 1 0 ", 1, brew.OK},
		{"-.;ii.;A0:k9s1l1t.;i:k4s0nAl0cA0wl0t.", "", 9, 99, "9 ", 4, brew.OK},
		// What the caller has on its stack stays there, and the answer is laid above it.
		{"-.;ii.;A0:k3k4dl1+t.;:k7nAk5cA0-t.", "", 9, 99, "", -1, brew.OK},
	})
}

// TestP12OwnClass: the object's own class tells which body runs, whatever the type of the reference.
func TestP12OwnClass(t *testing.T) {
	classes := "-.A.B.-.;ii.iA.;A0:k1t.C0:k3t.A1:l0t.D0:k4t.;"
	runAll(t, []ran{
		{classes + "A:nAs0l0k0cA0t.", "", 9, 9, "", 1, brew.OK},
		{classes + "A:nBs0l0k0cA0t.", "", 9, 9, "", 1, brew.OK},
		{classes + "A:nBs0l0k0cB0t.", "", 9, 9, "", 1, brew.OK},
		{classes + "A:nCs0l0k0cA0t.", "", 9, 9, "", 3, brew.OK},
		{classes + ":nCk0cB0t.", "", 9, 9, "", 3, brew.OK},
		{classes + ":nCk0cA1k0cA0t.", "", 9, 10, "", 3, brew.OK},
		{classes + ":nBk0cB1k0cA0t.", "", 9, 10, "", 1, brew.OK},
		{classes + ":nDk0cD0t.", "", 9, 9, "", 4, brew.OK},
	})
}

// TestP13 has for each image the least number of cells with which it runs to its end.
func TestP13(t *testing.T) {
	for _, c := range []struct {
		image string
		input string
		cells int
	}{
		{";;;:k0t.", "", 0},
		{"-.;;;:nAdk0t.", "", 1},
		{"-i.;;;:nAdk0t.", "", 2},
		{"-iA.;;;:nAdk0t.", "", 3},
		{"-ii.Aii.;;;:nBdk0t.", "", 5},
		{"-ii.Aii.Bii.Cii.;;;:nDdk0t.", "", 9},
		{"-ii.Aii.Bii.Cii.;;;D:nDs0nAdk0t.", "", 12},
		// What was taken from the stack, or was in a local that holds something else now, is room.
		{"-.;;;:nAdnAdnAdk0t.", "", 1},
		{"-.;;;:nAnAdnAddk0t.", "", 2},
		{"-.;;;:nAnAnAdddk0t.", "", 3},
		{"-.;;;A:nAs0nAs0k0t.", "", 2},
		{"-.;;;A:nAs0zs0nAs0k0t.", "", 1},
		{"-.;;;A:nAs0k0s0nAs0k0t.", "", 1},
		// An object counts once, however often it is referred to.
		{"-.;;;AA:nAs0l0s1l0l0l1nAddddk0t.", "", 2},
		// Fields lead on, through one object and many, and around.
		{"-A.;;;A:nAs0l0nApA0nAdk0t.", "", 6},
		{"-A.;;;A:nAs0l0nApA0l0gA0s0nAdk0t.", "", 4},
		{"-A.;;;A:nAs0l0nApA0l0gA0nApA0l0gA0gA0nApA0nAdk0t.", "", 10},
		{"-A.;;;A:nAs0l0l0pA0nAdk0t.", "", 4},
		{"-A.;;;A:nAs0l0l0pA0zs0nAdk0t.", "", 2},
		{"-A.;;;A:nAs0l0nApA0l0gA0l0pA0nAdk0t.", "", 6},
		{"-A.;;;A:nAs0l0nApA0l0gA0l0pA0zs0nAdk0t.", "", 4},
		{"-A.;;;A:nAs0l0nApA0l0zpA0nAdk0t.", "", 4},
		// A number in a field or a slot refers to nothing.
		{"-iA.;;;iA:k1s0nAdnAdnAs1l1k1pA0nAdk0t.", "", 6},
		// Ways meet where a local holds an object and a number: it cannot be used.
		{"-ii.;;;A:nAs0rf06k2s0nAdk0t.", "\x00", 3},
		{"-ii.;;;A:nAs0rf06k2s0nAdk0t.", "\x01", 3},
		// Ahead of the meeting it can.
		{"-ii.;;;A:nAs0nAdrf08k2s0nAdk0t.", "\x00", 6},
		// So it is with the stack.
		{"-.;;;:nArf05dk1nAddk0t.", "\x00", 1},
		{"-.;;;:nArf05dnAnAddk0t.", "\x00", 2},
		// What an object there leads to is room too, unless there is another way to it.
		{"-A.;;;AA:nAs0l0nApA0l0gA0s1rf12k2s0nAdk0t.", "\x00", 4},
		{"-A.;;;A:nAs0l0nApA0rf09k2s0nAdk0t.", "\x00", 4},
		// A body that waits keeps its locals and what lies on its stack below what the call took.
		{"-.;ii.;A0:nAdk0t.;A:nAs0l0k0cA0t.", "", 2},
		{"-.;ii.;A0:nAdk0t.;:nAk0cA0t.", "", 2},
		{"-.;ii.;A0:zs0nAdk0t.;:nAk0cA0t.", "", 1},
		{"-.;ii.;A0:zs0nAdk0t.;A:nAs0l0k0cA0t.", "", 2},
		{"-.;ii.;A0:zs0nAdk0t.;:nAnAk0cA0wdk0t.", "", 2},
		{"-.;Ai.;A0:zs0nAdk0t.;:nAnAcA0t.", "", 2},
		{"-.;Ai.;A0:zs0k0s1nAdk0t.;:nAzcA0t.", "", 1},
		{"-.;Ai.;A0:zs0zs1nAdk0t.;:nAnAcA0t.", "", 2},
		// It keeps what its call's state does not call `-`, and only that.
		{"-.;ii.;A0:zs0nAdk0t.;A:nAs0rf06k2s0nAk0cA0t.", "\x00", 1},
		{"-.;ii.;A0:zs0nAdk0t.;A:nAs0nAk0cA0f08k2s0nAdk0t.", "", 2},
		{"-.;ii.;A0:zs0nAdk0t.;:nArf05dk1nAk0cA0wdk0t.", "\x00", 1},
		// A body that has ended keeps nothing.
		{"-.;ii.;A0A:nAs2k0t.;:nAk0cA0dnAdk0t.", "", 2},
		{"-.;iA.;A0A:nAs2l2t.;:nAk0cA0nAddk0t.", "", 2},
	} {
		for cells := 0; cells <= 100; cells++ {
			want := brew.OK
			if cells < c.cells {
				want = brew.ErrMemory
			}
			if out, answer, e := brew.Run(c.image, c.input, cells, 100); out != "" && e == brew.ErrMemory || answer != 0 || e != want {
				t.Errorf("Run(%q, %q, %d) = %q, %d, %d, want %d cells", c.image, c.input, cells, out, answer, e, c.cells)
				break
			}
		}
	}
}
