package house

import (
	"strconv"
	"strings"

	"fusee/api"
	"fusee/hyper"
	"fusee/script"
	"fusee/twin"
)

// owners tells which hosts answer a tenant.
func (s *state) owners(args []string) (string, error) {
	if !s.built {
		return "", api.ErrArg
	}
	words := []string{"owners"}
	for _, id := range twin.Owners(s.hosts, args[0]) {
		words = append(words, strconv.Itoa(id))
	}
	if len(words) == 1 {
		words = append(words, none)
	}
	return line(words...), nil
}

// show tells what a host has.
func (s *state) show(args []string) (string, error) {
	h, err := s.host(args[0])
	if err != nil {
		return "", err
	}
	var out strings.Builder
	out.WriteString(line("host", strconv.Itoa(h.Id), decimal(h.Counter), flag(h.Clock.Synced), decimal(h.Epoch)))
	for _, e := range h.T.L {
		out.WriteString(line("tenant", strconv.Itoa(e.State), decimal(e.Epoch), e.T.Name,
			flag(e.T.Floor.Set), decimal(e.T.Floor.At), flag(e.T.Pause.On), decimal(e.T.Pause.Lost)))
	}
	for _, r := range h.K.L {
		out.WriteString(line("kept", r.Name, strconv.Itoa(len(r.Safe)), strconv.Itoa(len(r.Waits))))
	}
	return out.String(), nil
}

// page tells a host's page.
func (s *state) page(args []string) (string, error) {
	h, err := s.host(args[0])
	if err != nil {
		return "", err
	}
	words := []string{"page"}
	for _, word := range h.Page {
		words = append(words, strconv.FormatUint(word, 10))
	}
	return line(words...), nil
}

// wire tells which letters are under way.
func (s *state) wire([]string) (string, error) {
	if !s.built {
		return "", api.ErrArg
	}
	var out strings.Builder
	for _, l := range s.hosts.N.L {
		out.WriteString(line("letter", strconv.Itoa(l.To), script.Digits(l.B)))
	}
	return out.String(), nil
}

// host is a host by its number, if there is one.
func (s *state) host(word string) (hyper.Host, error) {
	id := which(word)
	if !s.built || id >= len(s.hosts.H) {
		return hyper.Host{}, api.ErrArg
	}
	return s.hosts.H[id], nil
}

// flag is a bool as a word.
func flag(on bool) string {
	if on {
		return "1"
	}
	return "0"
}
