package script_test

import (
	"bytes"
	"errors"
	"fmt"
	"strconv"
	"strings"
	"testing"

	"fusee/api"
	. "fusee/script"
)

// alike tells whether two values are the same, where lists without elements are, too.
func alike(a, b any) bool { return fmt.Sprintf("%+v", a) == fmt.Sprintf("%+v", b) }

// code is the number of an error, 0 without one.
func code(err error) int {
	var e api.Errno
	if err == nil {
		return 0
	}
	if errors.As(err, &e) {
		return int(e)
	}
	return -1
}

// good has each command, and the least and the most further words.
func good() []string {
	many := strings.Repeat(" w", 32)
	return []string{
		"rule 1 2 3 4 5 6 7 8 9 10 11", "rule -1 0 0 0 0 0 0 0 0 0 -9223372036854775808", "round -", "round a" + many, "pass 5", "hear 0 1 -5 9223372036854775807", "learn 0 10 50000", "learn 0 10 50000 911 x",
		"learn 0 1 2" + many, "create 0 b -", "create 0 b 00ff", "create 0 ~! " + strings.Repeat("ab", 32), "read 0 b", "wall 1 b", "policy 0 b 1 2 3 4 5 6 7", "quantum 0 b 5", "zone 0 b UTC 0", "zone 0 b UTC 0 1 2", "zone 0 b UTC 0" + many,
		"stop 0 b", "go 0 b", "move 0 b", "say 0", "come 0", "lose 1", "double 2", "crash 0 -", "crash 0 0110", "down -", "down 1", "calm 3", "owners b", "show 0", "page 1", "wire", "owners " + strings.Repeat("x", 64),
	}
}

// bad are lines that are no commands.
func bad() []string {
	many := strings.Repeat(" w", 33)
	return []string{
		"nothing", "Rule 1 2 3 4 5 6 7 8 9 10 11", "rule", "rule 1 2 3 4 5 6 7 8 9 10", "rule 1 2 3 4 5 6 7 8 9 10 11 12", "rule 1 2 3 4 5 6 7 8 9 10 x", "round", "round a" + many, "pass", "pass 05", "pass -0", "pass +5", "pass 5 6", "pass 9223372036854775808", "pass 1e3", "pass 1_0",
		"hear 0 1 2", "hear 0 1 2 3 4", "hear a 1 2 3", "learn 0 1", "learn 0 1 2" + many, "learn 0 x 2", "create 0 b", "create 0 b 0", "create 0 b 0F", "create 0 b 0g", "create 0 b 00 1", "read 0", "read b 0", "read 0 b c", "policy 0 b 1 2 3 4 5 6", "policy 0 b 1 2 3 4 5 6 7 8",
		"quantum 0 b", "quantum 0 b x", "zone 0 b UTC", "zone 0 b UTC x", "zone 0 b UTC 0" + many, "say", "say x", "say 0 1", "crash 0", "crash 0 2", "crash 0 01-", "down", "down 012", "down 0 1", "calm", "owners", "owners a b", "show x", "page", "wire 1",
		"owners " + strings.Repeat("x", 65), "owners \x7f", "owners é", "owners \x00", "owners a\rb", "wire\r", "owners\va",
	}
}

// command is a line as a command.
func command(line string) Command {
	words := strings.Split(line, " ")
	return Command{words[0], words[1:]}
}

func TestSR1Check(t *testing.T) {
	for _, line := range good() {
		if err := Check(command(line)); err != nil {
			t.Errorf("Check(%q): %v", line, err)
		}
		l, n, err := Parse(line)
		if len(l) != 1 || n != 0 || err != nil || l[0].Word != command(line).Word || strings.Join(l[0].Args, " ") != strings.Join(command(line).Args, " ") {
			t.Errorf("Parse(%q): %v, %d, %v", line, l, n, err)
		}
	}
	for _, line := range bad() {
		if err := Check(command(line)); code(err) != 337 {
			t.Errorf("Check(%q): %v", line, err)
		}
		if l, n, err := Parse("wire\n\n" + line); len(l) != 0 || n != 3 || code(err) != 337 {
			t.Errorf("Parse(%q): %v, %d, %v", line, l, n, err)
		}
	}
	for _, c := range []Command{{}, {"wire", []string{""}}, {"owners", []string{""}}, {"owners", []string{"a b"}}, {"owners", []string{"a#"}}, {"owners", []string{"\n"}}, {"owners a", nil}, {"round", []string{"a", ""}}, {"learn", []string{"0", "1", "2", "#"}}, {"create", []string{"0", "b", ""}}, {"down", []string{""}}} {
		if code(Check(c)) != 337 {
			t.Errorf("Check(%q): %v", c, Check(c))
		}
	}
}

func TestSR1Int(t *testing.T) {
	for _, n := range []int64{0, 1, -1, 10, -10, 9223372036854775807, -9223372036854775808} {
		if got, err := Int(strconv.FormatInt(n, 10)); got != n || err != nil {
			t.Errorf("Int(%d): %d, %v", n, got, err)
		}
	}
	for _, s := range []string{"", "-", "+1", "01", "-0", "-01", "00", "1 ", " 1", "0x1", "1_000", "9223372036854775808", "-9223372036854775809", "99999999999999999999", "1.0", "１", "a", "--1"} {
		if got, err := Int(s); got != 0 || code(err) != 3 {
			t.Errorf("Int(%q): %d, %v", s, got, err)
		}
	}
}

func TestSR1Hex(t *testing.T) {
	all := make([]byte, 256)
	for i := range all {
		all[i] = byte(i)
	}
	for s, b := range map[string][]byte{"-": nil, "00": {0}, "ff": {255}, "0123456789abcdef": {1, 0x23, 0x45, 0x67, 0x89, 0xab, 0xcd, 0xef}, Digits(all): all} {
		if got, err := Hex(s); !bytes.Equal(got, b) || err != nil {
			t.Errorf("Hex(%q): %x, %v", s, got, err)
		}
		if got := Digits(b); got != s {
			t.Errorf("Digits(%x): %q", b, got)
		}
	}
	if Digits([]byte{}) != "-" || len(Digits(all)) != 512 {
		t.Error("Digits")
	}
	for _, s := range []string{"", "0", "0F", "F0", "FF", "0g", "g0", "--", "-0", " 00", "00 ", "0x00", "000", "é"} {
		if got, err := Hex(s); len(got) != 0 || code(err) != 3 {
			t.Errorf("Hex(%q): %x, %v", s, got, err)
		}
	}
}

func TestSR1Parse(t *testing.T) {
	five := []Command{{"pass", []string{"5"}}}
	for _, c := range []struct {
		s    string
		want []Command
		line int
		code int
	}{
		{"pass 5 # five", five, 0, 0}, {"pass 5#five", five, 0, 0}, {"\t pass \t\t 5\t ", five, 0, 0}, {"", nil, 0, 0}, {"\n\n", nil, 0, 0}, {" \t\n# all\n\n#", nil, 0, 0}, {"# \xff\x00\r\npass 5", five, 0, 0}, {"\npass 5\n", five, 0, 0},
		{"pass 5\nwire\npass 5", []Command{five[0], {"wire", nil}, five[0]}, 0, 0}, {"pass 5\nwrong\nalso wrong", nil, 2, 337}, {"pass 5\n\n\npass\n", nil, 4, 337}, {"pass # 5", nil, 1, 337}, {"pass\n5", nil, 1, 337}, {"pass 5\r\n", nil, 1, 337}, {"pass\u00a05", nil, 1, 337}, {"pass\f5", nil, 1, 337},
		{strings.Repeat("#", 65536), nil, 0, 0}, {strings.Repeat("#", 65537), nil, 0, 5}, {strings.Repeat("x", 65537), nil, 0, 5},
		{strings.Repeat("wire\n", 1000) + "# more\n\n", nil, -1, 0}, {strings.Repeat("wire\n", 1000) + "\n#\nwire", nil, 1003, 337}, {strings.Repeat("wire\n", 1001), nil, 1001, 337}, {strings.Repeat("wire\n", 1000) + "wrong", nil, 1001, 337},
	} {
		l, n, err := Parse(c.s)
		if c.line == -1 {
			if len(l) != 1000 || n != 0 || err != nil {
				t.Errorf("1000 commands: %d, %d, %v", len(l), n, err)
			}
			continue
		}
		same := len(l) == len(c.want)
		for i := range c.want {
			same = same && l[i].Word == c.want[i].Word && strings.Join(l[i].Args, " ") == strings.Join(c.want[i].Args, " ")
		}
		if !same || n != c.line || code(err) != c.code {
			t.Errorf("Parse(%.60q): %v, %d, %v", c.s, l, n, err)
		}
	}
}

func TestSR1OwnMemory(t *testing.T) {
	l, _, _ := Parse("hear 1 2 3 4\nsay 5\nowners w")
	for i := range l {
		l[i].Args = append(l[i].Args, "more")
	}
	if !alike(l, []Command{{"hear", []string{"1", "2", "3", "4", "more"}}, {"say", []string{"5", "more"}}, {"owners", []string{"w", "more"}}}) {
		t.Errorf("memory is shared: %v", l)
	}
}

func TestSR2(t *testing.T) {
	var l []Command
	for _, line := range good() {
		l = append(l, command(line))
	}
	if got, err := Print(l); got != strings.Join(good(), "\n")+"\n" || err != nil {
		t.Errorf("Print: %q, %v", got, err)
	}
	if got, err := Print(nil); got != "" || err != nil {
		t.Errorf("Print of nothing: %q, %v", got, err)
	}
	long := Command{"round", nil}
	for range 33 {
		long.Args = append(long.Args, strings.Repeat("x", 64))
	}
	repeat := func(c Command, n int, more ...Command) []Command {
		var l []Command
		for range n {
			l = append(l, c)
		}
		return append(l, more...)
	}
	// A line of 33 words has 2151 bytes: 30 of them leave 1006 of 65536.
	rest := Command{"owners", []string{strings.Repeat("y", 55)}}
	for i, c := range []struct {
		l    []Command
		code int
	}{
		{repeat(Command{"wire", nil}, 1000), 0}, {repeat(Command{"wire", nil}, 1001), 337}, {repeat(long, 31), 5}, {repeat(long, 30), 0}, {repeat(long, 1000), 5}, {repeat(long, 31, Command{}), 337}, {[]Command{command("wire"), command("wire 1")}, 337},
		{repeat(long, 30, repeat(rest, 15, Command{"owners", []string{strings.Repeat("z", 53)}})...), 0}, {repeat(long, 30, repeat(rest, 15, Command{"owners", []string{strings.Repeat("z", 54)}})...), 5},
	} {
		got, err := Print(c.l)
		if code(err) != c.code || c.code != 0 && got != "" {
			t.Errorf("Print %d: %d bytes, %v", i, len(got), err)
		}
	}
}

func TestSR3(t *testing.T) {
	var l []Command
	for _, line := range good() {
		l = append(l, command(line))
	}
	s, err := Print(l)
	back, n, perr := Parse(s)
	again, aerr := Print(back)
	if len(back) != len(l) || n != 0 || again != s || err != nil || perr != nil || aerr != nil {
		t.Errorf("%q became %q", s, again)
	}
}
