package house

import (
	"iter"

	"fusee/api"
	"fusee/fuzz"
	"fusee/hyper"
	"fusee/leap"
	"fusee/policy"
	"fusee/prf"
	"fusee/script"
	"fusee/smear"
	"fusee/span"
	"fusee/tenant"
	"fusee/twin"
	"fusee/zone"
)

// plain does an act that needs nothing but numbers and words.
func (s *state) plain(word string, args []string) (string, error) {
	switch word {
	case "pass":
		return s.act(twin.Act{Kind: twin.Pass, N: integer(args[0])})
	case "come":
		return s.act(twin.Act{Kind: twin.Come, N: integer(args[0])})
	case "lose":
		return s.act(twin.Act{Kind: twin.Lose, N: integer(args[0])})
	case "double":
		return s.act(twin.Act{Kind: twin.Double, N: integer(args[0])})
	case "say":
		return s.act(twin.Act{Kind: twin.Say, Host: which(args[0])})
	case "crash":
		return s.act(twin.Act{Kind: twin.Crash, Host: which(args[0]), Keep: bits(args[1])})
	case "move":
		return s.act(twin.Act{Kind: twin.Move, Host: which(args[0]), C: hyper.Call{Name: args[1]}})
	case "hear":
		there := span.Span{Lo: integer(args[2]), Hi: integer(args[3])}
		return s.act(twin.Act{Kind: twin.Hear, Host: which(args[0]), N: integer(args[1]), S: there})
	}
	return "", api.ErrScript
}

// learn lets a host learn a table of leap seconds.
func (s *state) learn(args []string) (string, error) {
	t := leap.Table{Base: integer(args[1]), Last: integer(args[2])}
	for _, word := range args[3:] {
		day, err := script.Int(word)
		if err != nil {
			return "", err
		}
		t.L = append(t.L, day)
	}
	b, err := leap.Encode(t)
	if err != nil {
		return "", err
	}
	return s.act(twin.Act{Kind: twin.Learn, Host: which(args[0]), B: b})
}

// create lets a host have a new tenant.
func (s *state) create(args []string) (string, error) {
	b, err := script.Hex(args[2])
	if err != nil {
		return "", err
	}
	var key prf.Key
	if len(b) > len(key) {
		return "", api.ErrArg
	}
	copy(key[:], b)
	t := tenant.Tenant{Name: args[1], Key: key, P: policy.Usual()}
	return s.act(twin.Act{Kind: twin.Create, Host: which(args[0]), T: t})
}

// ask lets a tenant ask for something that needs no bytes.
func (s *state) ask(word string, args []string) (string, error) {
	c := hyper.Call{Name: args[1]}
	switch word {
	case "read":
		c.Kind = hyper.Read
	case "wall":
		c.Kind = hyper.Wall
	case "stop":
		c.Kind = hyper.Stop
	case "go":
		c.Kind = hyper.Go
	case "quantum":
		c.Kind = hyper.Quantum
		c.N = integer(args[2])
	}
	return s.act(twin.Act{Kind: twin.Ask, Host: which(args[0]), C: c})
}

// policy lets a tenant ask for a policy.
func (s *state) policy(args []string) (string, error) {
	p := policy.Usual()
	p.Smear = smear.Smear{Kind: int(integer(args[2])), Before: integer(args[3]), After: integer(args[4])}
	p.Quantum = integer(args[5])
	p.Fuzz = fuzz.Fuzz{Width: integer(args[6]), Cell: integer(args[7])}
	p.Jump = integer(args[8]) != 0
	b, err := policy.Encode(p)
	if err != nil {
		return "", err
	}
	c := hyper.Call{Kind: hyper.Policy, Name: args[1], B: b}
	return s.act(twin.Act{Kind: twin.Ask, Host: which(args[0]), C: c})
}

// zone lets a tenant ask for a zone.
func (s *state) zone(args []string) (string, error) {
	z := zone.Zone{Name: args[2], First: integer(args[3])}
	more := args[4:]
	if len(more)%2 == 1 {
		return "", api.ErrForm
	}
	for first, second := range pairs(more) {
		at, err := script.Int(first)
		if err != nil {
			return "", err
		}
		off, err := script.Int(second)
		if err != nil {
			return "", err
		}
		z.L = append(z.L, zone.Rule{At: at, Off: off, Name: z.Name})
	}
	b, err := zone.Encode(z)
	if err != nil {
		return "", err
	}
	c := hyper.Call{Kind: hyper.Zone, Name: args[1], B: b}
	return s.act(twin.Act{Kind: twin.Ask, Host: which(args[0]), C: c})
}

// pairs are words two by two.
func pairs(words []string) iter.Seq2[string, string] {
	return func(yield func(string, string) bool) {
		for i := 0; i+1 < len(words); i += 2 {
			if !yield(words[i], words[i+1]) {
				return
			}
		}
	}
}
