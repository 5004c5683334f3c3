package hyper

import (
	"errors"
	"slices"

	"fusee/ahead"
	"fusee/api"
	"fusee/handoff"
	"fusee/keep"
	"fusee/page"
	"fusee/policy"
	"fusee/slot"
	"fusee/smear"
	"fusee/tenant"
	"fusee/zone"
)

// Do does what a tenant asks for; what is to be safe waits.
func Do(h Host, c Call) (Host, Answer) {
	next, a, err := perform(h, c)
	if err != nil {
		return Copy(h), Answer{Code: number(err)}
	}
	return next, a
}

// perform does what a tenant asks for, or tells why it does not.
func perform(h Host, c Call) (Host, Answer, error) {
	if c.Kind < Read || c.Kind > Go {
		return Host{}, Answer{}, api.ErrArg
	}
	t, err := handoff.Owned(h.T, c.Name)
	if err != nil {
		return Host{}, Answer{}, err
	}
	who, err := slot.Who(h.R.Round, h.Counter)
	if err != nil {
		return Host{}, Answer{}, err
	}
	if who != c.Name {
		return Host{}, Answer{}, api.ErrQuota
	}
	if c.Kind == Read || c.Kind == Wall {
		return read(h, t, c.Kind)
	}
	t, err = changed(h, t, c)
	if err != nil {
		return Host{}, Answer{}, err
	}
	table, err := handoff.Keep(h.T, t)
	if err != nil {
		return Host{}, Answer{}, err
	}
	next, err := saved(h, table, c.Name)
	return next, Answer{}, err
}

// read tells a tenant the time, and for Wall what a clock shows there.
func read(h Host, t tenant.Tenant, kind int) (Host, Answer, error) {
	tai, off, err := present(h)
	if err != nil {
		return Host{}, Answer{}, err
	}
	r, t, err := tenant.Read(t, h.Leaps, tai, off)
	if err != nil {
		return Host{}, Answer{}, err
	}
	table, err := handoff.Keep(h.T, t)
	if err != nil {
		return Host{}, Answer{}, err
	}
	next := Copy(h)
	next.T = table
	if t.P.Smear.Kind != smear.Step && isAbove(h.K, t.Name, r.Value) {
		next, err = saved(h, table, t.Name)
		if err != nil {
			return Host{}, Answer{}, err
		}
	}
	a := Answer{R: r}
	if kind == Wall {
		a.W, err = tenant.Wall(t, r)
	}
	return next, a, err
}

// changed is a tenant as it asks to be.
func changed(h Host, t tenant.Tenant, c Call) (tenant.Tenant, error) {
	how := t.P
	switch c.Kind {
	case Policy:
		p, err := policy.Decode(c.B)
		if err != nil {
			return tenant.Tenant{}, err
		}
		how = p
	case Quantum:
		how.Quantum = c.N
	case Zone:
		z, err := zone.Decode(c.B)
		if err != nil {
			return tenant.Tenant{}, err
		}
		how.Zone = z
	default:
		tai, _, err := present(h)
		if err != nil {
			return tenant.Tenant{}, err
		}
		if c.Kind == Stop {
			return tenant.Stop(t, tai)
		}
		return tenant.Go(t, tai)
	}
	return tenant.Set(t, how)
}

// present is the time at a host's counter, and how far off it is at most.
func present(h Host) (int64, int64, error) {
	if !h.Clock.Synced {
		return 0, 0, api.ErrSync
	}
	p, err := page.Read(h.Page)
	if err != nil {
		return 0, 0, err
	}
	tai, off, err := ahead.Time(p, h.Counter)
	if err != nil {
		return 0, 0, err
	}
	if off > h.Clock.R.Most {
		return 0, 0, api.ErrSync
	}
	return tai, off, nil
}

// isAbove tells whether a value is above the floor that is recorded for a tenant, or none is.
func isAbove(k keep.Store, name string, value int64) bool {
	i := slices.IndexFunc(k.L, func(r keep.Record) bool { return r.Name == name })
	if i < 0 {
		return true
	}
	newest := k.L[i].Waits
	if len(newest) == 0 {
		newest = k.L[i].Safe
	}
	e, err := keep.Open(newest)
	return err != nil || !e.T.Floor.Set || value > e.T.Floor.At
}

// number is the number of an error.
func number(err error) int {
	var no api.Errno
	if errors.As(err, &no) {
		return int(no)
	}
	return 0
}
