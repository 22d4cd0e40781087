package oracle_test

import (
	"testing"

	"peloton/api"
	"peloton/field"
	"peloton/oracle"
	"peloton/ratio"
)

func wantNew(t *testing.T, now api.Ratio, want api.Model, wantError api.Errno) {
	t.Helper()
	if m, e := oracle.New(now); !sameModel(m, want) || e != wantError {
		t.Error(now, m, e)
	}
}

// P12.1: New returns the model without points, at each time that is asked for.
func TestNew(t *testing.T) {
	for _, now := range asked() {
		wantNew(t, now, at(now, api.Field{}), api.OK)
		m, _ := oracle.New(now)
		wantCheck(t, m, api.OK)
	}
}

// P12.1: New returns ErrBad for what is no valid fraction, also where it is too great, and ErrArg for a valid one that is not asked for.
func TestNewAtOtherTimes(t *testing.T) {
	for _, now := range noTimes() {
		wantNew(t, now, api.Model{}, api.ErrBad)
	}
	for _, now := range notAsked() {
		wantNew(t, now, api.Model{}, api.ErrArg)
		if e := ratio.Check(now); e != api.OK {
			t.Error("not one of these", now)
		}
	}
}

func wantCheck(t *testing.T, m api.Model, want api.Errno) {
	t.Helper()
	if e := oracle.Check(m); e != want {
		t.Error(m, e)
	}
}

// P12.1: models are valid with no point, with 64 of them, and at all times that are asked for.
func TestCheck(t *testing.T) {
	for _, m := range goodModels() {
		wantCheck(t, m, api.OK)
	}
	for _, f := range fields() {
		for _, now := range asked() {
			wantCheck(t, at(now, f), api.OK)
		}
	}
	wantCheck(t, at(whole(0), level(64)), api.OK)
	wantCheck(t, at(whole(0), level(65)), api.ErrBad)
}

// P12.1: a model is not valid whose time is no valid fraction, or is not asked for.
func TestCheckOfTimes(t *testing.T) {
	for _, f := range fields() {
		for _, now := range append(noTimes(), notAsked()...) {
			wantCheck(t, at(now, f), api.ErrBad)
		}
	}
}

// P12.1: a model is ErrBad whose field is not valid, whatever the error of the field is.
func TestCheckOfFields(t *testing.T) {
	for want, list := range noFields() {
		for _, f := range list {
			if e := field.Check(f); e != want {
				t.Error("not one of these", f, e)
			}
			for _, now := range append(asked(), noTimes()...) {
				wantCheck(t, at(now, f), api.ErrBad)
			}
		}
	}
}
