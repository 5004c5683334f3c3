// Package whole holds the program to the promises that concern all of its layers.
package whole

import (
	"fmt"
	"maps"
	"math"
	"math/rand"
	"reflect"
	"slices"
	"strings"
	"testing"

	"fusee/ahead"
	"fusee/api"
	"fusee/audit"
	"fusee/blob"
	"fusee/bound"
	"fusee/calls"
	"fusee/civil"
	"fusee/crc"
	"fusee/daytime"
	"fusee/drift"
	"fusee/fields"
	"fusee/filter"
	"fusee/floor"
	"fusee/fuzz"
	"fusee/handoff"
	"fusee/host"
	"fusee/house"
	"fusee/hyper"
	"fusee/keep"
	"fusee/leap"
	"fusee/local"
	"fusee/message"
	"fusee/model"
	"fusee/net"
	"fusee/ntp"
	"fusee/num"
	"fusee/page"
	"fusee/pause"
	"fusee/policy"
	"fusee/prf"
	"fusee/publish"
	"fusee/quant"
	"fusee/ratio"
	"fusee/reader"
	"fusee/sample"
	"fusee/script"
	"fusee/servo"
	"fusee/slot"
	"fusee/smear"
	"fusee/span"
	"fusee/tenant"
	"fusee/told"
	"fusee/trace"
	"fusee/twin"
	"fusee/wide"
	"fusee/yearly"
	"fusee/zone"
)

// functions are all functions of the program, by their names.
func functions() map[string]any {
	return map[string]any{
		"num.Add": num.Add, "num.Sub": num.Sub, "num.Mul": num.Mul, "num.AddSat": num.AddSat, "num.SubSat": num.SubSat, "num.Div": num.Div, "num.Ceil": num.Ceil, "num.Clamp": num.Clamp, "num.Size": num.Size,
		"wide.Of": wide.Of, "wide.Mul": wide.Mul, "wide.Add": wide.Add, "wide.Neg": wide.Neg, "wide.Cmp": wide.Cmp, "wide.Shr": wide.Shr, "wide.Div": wide.Div, "wide.Int": wide.Int, "wide.MulDiv": wide.MulDiv, "wide.MulShift": wide.MulShift,
		"ratio.Fit": ratio.Fit, "ratio.Check": ratio.Check, "ratio.Scale": ratio.Scale, "ratio.Off": ratio.Off, "ratio.Adjust": ratio.Adjust,
		"crc.Sum": crc.Sum, "crc.More": crc.More, "crc.Sealed": crc.Sealed, "crc.Opened": crc.Opened,
		"fields.U16": fields.U16, "fields.U32": fields.U32, "fields.I64": fields.I64, "fields.Text": fields.Text,
		"blob.Seal": blob.Seal, "blob.Open": blob.Open, "blob.Kind": blob.Kind,
		"civil.Leap": civil.Leap, "civil.Month": civil.Month, "civil.Check": civil.Check, "civil.Days": civil.Days, "civil.Of": civil.Of, "civil.Weekday": civil.Weekday, "civil.Text": civil.Text, "civil.Parse": civil.Parse,
		"daytime.Check": daytime.Check, "daytime.Seconds": daytime.Seconds, "daytime.Of": daytime.Of, "daytime.Stamp": daytime.Stamp, "daytime.Parse": daytime.Parse,
		"leap.Check": leap.Check, "leap.Ahead": leap.Ahead, "leap.Length": leap.Length, "leap.Begin": leap.Begin, "leap.UTC": leap.UTC, "leap.TAI": leap.TAI, "leap.Encode": leap.Encode, "leap.Decode": leap.Decode,
		"zone.Check": zone.Check, "zone.At": zone.At, "zone.Next": zone.Next, "zone.Encode": zone.Encode, "zone.Decode": zone.Decode,
		"local.Show": local.Show, "local.All": local.All, "local.One": local.One, "local.Near": local.Near,
		"smear.Check": smear.Check, "smear.Fits": smear.Fits, "smear.Window": smear.Window, "smear.At": smear.At, "smear.Lag": smear.Lag,
		"span.Check": span.Check, "span.Has": span.Has, "span.Meet": span.Meet, "span.Grow": span.Grow, "span.Mid": span.Mid, "span.Vote": span.Vote,
		"sample.Check": sample.Check, "sample.Of": sample.Of, "sample.Delay": sample.Delay, "sample.Told": sample.Told,
		"filter.Check": filter.Check, "filter.Put": filter.Put, "filter.Best": filter.Best,
		"servo.Check": servo.Check, "servo.Step": servo.Step, "servo.Pull": servo.Pull, "servo.Slew": servo.Slew,
		"drift.Grow": drift.Grow, "drift.Until": drift.Until, "drift.Both": drift.Both,
		"host.Check": host.Check, "host.New": host.New, "host.Now": host.Now, "host.Sync": host.Sync, "host.Drop": host.Drop, "host.Factor": host.Factor,
		"page.Check": page.Check, "page.Of": page.Of, "page.Lay": page.Lay, "page.Read": page.Read, "page.Sum": page.Sum, "page.Encode": page.Encode, "page.Decode": page.Decode,
		"publish.Begin": publish.Begin, "publish.Step": publish.Step, "publish.All": publish.All, "publish.Mend": publish.Mend,
		"reader.Step": reader.Step, "reader.Play": reader.Play,
		"ahead.Time": ahead.Time, "ahead.Good": ahead.Good, "ahead.When": ahead.When,
		"prf.Sum": prf.Sum, "prf.Number": prf.Number, "prf.Derive": prf.Derive,
		"quant.Check": quant.Check, "quant.Down": quant.Down, "quant.Up": quant.Up, "quant.Is": quant.Is, "quant.Place": quant.Place,
		"fuzz.Check": fuzz.Check, "fuzz.By": fuzz.By, "fuzz.At": fuzz.At,
		"floor.Take": floor.Take, "floor.Raise": floor.Raise, "floor.Margin": floor.Margin,
		"pause.Check": pause.Check, "pause.Stop": pause.Stop, "pause.Go": pause.Go, "pause.View": pause.View,
		"policy.Check": policy.Check, "policy.Same": policy.Same, "policy.Usual": policy.Usual, "policy.Encode": policy.Encode, "policy.Decode": policy.Decode,
		"tenant.Check": tenant.Check, "tenant.New": tenant.New, "tenant.Read": tenant.Read, "tenant.Set": tenant.Set, "tenant.Stop": tenant.Stop, "tenant.Go": tenant.Go, "tenant.Wall": tenant.Wall, "tenant.True": tenant.True,
		"bound.Of": bound.Of, "bound.Sum": bound.Sum, "bound.Told": bound.Told, "bound.Age": bound.Age,
		"message.Check": message.Check, "message.Same": message.Same, "message.Pack": message.Pack, "message.Unpack": message.Unpack, "message.Encode": message.Encode, "message.Decode": message.Decode,
		"net.Check": net.Check, "net.Send": net.Send, "net.Take": net.Take, "net.Lose": net.Lose, "net.Double": net.Double, "net.To": net.To,
		"handoff.Check": handoff.Check, "handoff.Home": handoff.Home, "handoff.Put": handoff.Put, "handoff.Owned": handoff.Owned, "handoff.Keep": handoff.Keep, "handoff.Start": handoff.Start, "handoff.On": handoff.On, "handoff.Say": handoff.Say,
		"keep.Check": keep.Check, "keep.Put": keep.Put, "keep.Sync": keep.Sync, "keep.Crash": keep.Crash, "keep.Get": keep.Get, "keep.Save": keep.Save, "keep.Load": keep.Load, "keep.Entry": keep.Entry, "keep.Open": keep.Open,
		"slot.Check": slot.Check, "slot.Who": slot.Who, "slot.Left": slot.Left, "slot.Next": slot.Next, "slot.Share": slot.Share,
		"hyper.New": hyper.New, "hyper.Pass": hyper.Pass, "hyper.Hear": hyper.Hear, "hyper.Learn": hyper.Learn, "hyper.Create": hyper.Create, "hyper.Do": hyper.Do, "hyper.Move": hyper.Move, "hyper.Letter": hyper.Letter, "hyper.Say": hyper.Say, "hyper.Settle": hyper.Settle, "hyper.Crash": hyper.Crash,
		"twin.New": twin.New, "twin.Do": twin.Do, "twin.Owners": twin.Owners, "twin.Calm": twin.Calm,
		"audit.Back": audit.Back, "audit.Coarse": audit.Coarse, "audit.Far": audit.Far, "audit.Seen": audit.Seen, "audit.Same": audit.Same, "audit.Worst": audit.Worst,
		"script.Check": script.Check, "script.Parse": script.Parse, "script.Print": script.Print, "script.Int": script.Int, "script.Hex": script.Hex, "script.Digits": script.Digits,
		"house.Play": house.Play,
		"ntp.Check":  ntp.Check, "ntp.Stamp": ntp.Stamp, "ntp.Near": ntp.Near, "ntp.Short": ntp.Short, "ntp.Encode": ntp.Encode, "ntp.Decode": ntp.Decode, "ntp.Ask": ntp.Ask, "ntp.Answer": ntp.Answer, "ntp.Of": ntp.Of,
		"yearly.Check": yearly.Check, "yearly.Which": yearly.Which, "yearly.Changes": yearly.Changes, "yearly.Expand": yearly.Expand, "yearly.Text": yearly.Text, "yearly.Parse": yearly.Parse,
		"told.Check": told.Check, "told.Text": told.Text, "told.Parse": told.Parse, "told.Length": told.Length, "told.Long": told.Long, "told.Reading": told.Reading,
		"calls.Encode": calls.Encode, "calls.Decode": calls.Decode, "calls.Tell": calls.Tell, "calls.Hear": calls.Hear, "calls.Serve": calls.Serve, "calls.Price": calls.Price,
		"model.Of": model.Of, "model.New": model.New, "model.Ask": model.Ask, "model.Turn": model.Turn, "model.Play": model.Play,
		"trace.New": trace.New, "trace.True": trace.True, "trace.Do": trace.Do, "trace.Honest": trace.Honest, "trace.Find": trace.Find,
	}
}

// speaks tells whether a function may return something beside an error.
func speaks(name string) bool {
	switch name {
	case "hyper.Pass", "hyper.Hear", "hyper.Learn", "hyper.Create", "hyper.Move", "hyper.Letter", "reader.Step", "reader.Play", "script.Parse", "house.Play":
		return true
	}
	return false
}

// mixer makes values by chance: out of what was given and returned before, or anew.
type mixer struct {
	r     *rand.Rand
	seeds map[reflect.Type][]reflect.Value // what is given: valid values
	pool  map[reflect.Type][]reflect.Value // what was returned
	right map[string]int                   // how often a function returned no error
}

// put keeps a copy of a value, and of all within it, for later calls.
func (m *mixer) put(pool map[reflect.Type][]reflect.Value, v reflect.Value) {
	l := pool[v.Type()]
	if len(l) < 200 {
		pool[v.Type()] = append(l, clone(v))
	} else {
		l[m.r.Intn(len(l))] = clone(v)
	}
	switch v.Kind() {
	case reflect.Struct:
		for i := range v.NumField() {
			if v.Type().Field(i).IsExported() {
				m.put(pool, v.Field(i))
			}
		}
	case reflect.Slice, reflect.Array:
		for i := range min(v.Len(), 3) {
			m.put(pool, v.Index(i))
		}
	}
}

// get is a value of a type.
func (m *mixer) get(t reflect.Type, depth int) reflect.Value {
	for _, pool := range []map[reflect.Type][]reflect.Value{m.seeds, m.pool} {
		if l := pool[t]; len(l) > 0 && m.r.Intn(2) == 0 {
			return clone(l[m.r.Intn(len(l))])
		}
	}
	v := reflect.New(t).Elem()
	switch t.Kind() {
	case reflect.Bool:
		v.SetBool(m.r.Intn(2) == 0)
	case reflect.Int, reflect.Int8, reflect.Int64:
		v.SetInt(m.number())
	case reflect.Uint8, reflect.Uint32, reflect.Uint64:
		v.SetUint(uint64(m.number()))
	case reflect.String:
		v.SetString(m.text())
	case reflect.Struct:
		for i := range t.NumField() {
			v.Field(i).Set(m.get(t.Field(i).Type, depth+1))
		}
	case reflect.Array:
		for i := range t.Len() {
			v.Index(i).Set(m.get(t.Elem(), depth+1))
		}
	case reflect.Slice:
		for range m.r.Intn(9) >> min(depth, 3) {
			v.Set(reflect.Append(v, m.get(t.Elem(), depth+1)))
		}
	}
	return v
}

// number is a small one, a year, an end, or any.
func (m *mixer) number() int64 {
	switch m.r.Intn(5) {
	case 0:
		return m.r.Int63n(12) - 3
	case 1:
		return 1900 + m.r.Int63n(300)
	case 2:
		ends := []int64{math.MinInt64, math.MaxInt64, 1 << 62, -1 << 62, 1 << 61, -1 << 61, 1 << 60, 1 << 50, 1 << 40, 1 << 36, 1 << 31, 1 << 30, 1 << 20, 86400, 1000000000}
		return ends[m.r.Intn(len(ends))] + m.r.Int63n(3) - 1
	}
	return int64(m.r.Uint64()) >> m.r.Intn(64)
}

// text is a name, or any bytes.
func (m *mixer) text() string {
	if m.r.Intn(2) == 0 {
		return []string{"a", "b", "c", "UTC", "", "-", "1s", "2000-02-29", "CET,3600,CEST,3600,3.5.7.7200,10.5.7.10800", "1970-01-01T00:00:00.000000000+01:00", "rule 2147483648 31 0 0 0 0 1099511627776 5 1099511627776 1099511627776 10\nround a b\n", "5", "-7", "0aff", "2000-02-29T23:59:60.000000000"}[m.r.Intn(15)]
	}
	b := make([]byte, m.r.Intn(20))
	m.r.Read(b)
	return string(b)
}

// clone is a value with memory of its own.
func clone(v reflect.Value) reflect.Value {
	out := reflect.New(v.Type()).Elem()
	switch v.Kind() {
	case reflect.Struct:
		for i := range v.NumField() {
			out.Field(i).Set(clone(v.Field(i)))
		}
	case reflect.Array:
		for i := range v.Len() {
			out.Index(i).Set(clone(v.Index(i)))
		}
	case reflect.Slice:
		if v.IsNil() {
			return out
		}
		out.Set(reflect.MakeSlice(v.Type(), v.Len(), v.Len()+3))
		for i := range v.Len() {
			out.Index(i).Set(clone(v.Index(i)))
		}
	default:
		out.Set(v)
	}
	return out
}

// stretch is where a slice lies in memory.
type stretch struct{ from, to uintptr }

// stretches are where all slices of a value lie, with the room that they have.
func stretches(v reflect.Value, l []stretch) []stretch {
	switch v.Kind() {
	case reflect.Struct:
		for i := range v.NumField() {
			l = stretches(v.Field(i), l)
		}
	case reflect.Array:
		for i := range v.Len() {
			l = stretches(v.Index(i), l)
		}
	case reflect.Slice:
		if size := uintptr(v.Cap()) * v.Type().Elem().Size(); size > 0 {
			from := v.Pointer()
			l = append(l, stretch{from, from + size})
		}
		for i := range v.Len() {
			l = stretches(v.Index(i), l)
		}
	}
	return l
}

// overlap tells whether two stretches have something together.
func overlap(a, b stretch) bool { return a.from < b.to && b.from < a.to }

// shares tells whether slices of results share memory with each other, or with slices of arguments.
func shares(in, out []reflect.Value) bool {
	var given, got []stretch
	for _, v := range in {
		given = stretches(v, given)
	}
	for _, v := range out {
		got = stretches(v, got)
	}
	for i, a := range got {
		for _, b := range append(given, got[:i]...) {
			if overlap(a, b) {
				return true
			}
		}
	}
	return false
}

// fails tells whether a call's last result is an error.
func fails(out []reflect.Value) bool {
	if len(out) == 0 {
		return false
	}
	last := out[len(out)-1]
	return last.Kind() == reflect.Interface && !last.IsNil()
}

// isZero tells whether a value is zero, where lists without elements are, too.
func isZero(v reflect.Value) bool {
	return fmt.Sprintf("%+v", v.Interface()) == fmt.Sprintf("%+v", reflect.Zero(v.Type()).Interface())
}

// once calls a function, and tells what is wrong.
func (m *mixer) once(name string, f reflect.Value) (wrong string) {
	var in, copies []reflect.Value
	for i := range f.Type().NumIn() {
		v := m.get(f.Type().In(i), 0)
		in, copies = append(in, v), append(copies, clone(v))
	}
	defer func() {
		if p := recover(); p != nil {
			wrong = "panics"
		}
	}()
	out := f.Call(in)
	for i, v := range in {
		if !reflect.DeepEqual(v.Interface(), copies[i].Interface()) {
			return "changes its argument"
		}
	}
	values := out
	if n := f.Type().NumOut(); f.Type().Out(n-1).Kind() == reflect.Interface {
		values = out[:n-1]
	}
	if shares(in, values) {
		return "shares memory"
	}
	if !fails(out) {
		m.right[name]++
	} else {
		no, ok := out[len(out)-1].Interface().(api.Errno)
		if !ok || no < 1 {
			return "has another error"
		}
	}
	again := f.Call(copies)
	for i, v := range values {
		if !reflect.DeepEqual(v.Interface(), again[i].Interface()) {
			return "is not the same twice"
		}
		if fails(out) && !speaks(name) && !isZero(v) {
			return "returns something beside an error"
		}
		m.put(m.pool, v)
	}
	return ""
}

func TestP9(t *testing.T) {
	m := &mixer{r: rand.New(rand.NewSource(60)), seeds: map[reflect.Type][]reflect.Value{}, pool: map[reflect.Type][]reflect.Value{}, right: map[string]int{}}
	for _, v := range seeds(t) {
		m.put(m.seeds, reflect.ValueOf(v))
	}
	all := functions()
	for range 600 {
		for _, name := range slices.Sorted(maps.Keys(all)) {
			if strings.HasPrefix(name, "twin.Calm") && m.r.Intn(8) > 0 {
				continue
			}
			if wrong := m.once(name, reflect.ValueOf(all[name])); wrong != "" {
				t.Fatalf("%s %s", name, wrong)
			}
		}
	}
	for name := range all {
		if m.right[name] == 0 {
			t.Errorf("%s always returned an error", name)
		}
	}
}

func TestP9Reader(t *testing.T) {
	r := rand.New(rand.NewSource(61))
	for range 2000 {
		b := make([]byte, r.Intn(30))
		r.Read(b)
		readers := []*fields.Reader{nil, fields.New(b), {}}
		x := readers[r.Intn(3)]
		for range 10 {
			switch r.Intn(6) {
			case 0:
				x.U8()
			case 1:
				x.U16()
			case 2:
				x.U32()
			case 3:
				x.I64()
			case 4:
				x.Text()
			case 5:
				if x.Left() < 0 {
					t.Fatal("less than nothing is left")
				}
			}
		}
		if x.Left() > 0 && x.Done() == nil {
			t.Fatal("Done with bytes left")
		}
	}
}
