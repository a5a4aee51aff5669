package tests

import (
	"testing"

	"loop.example/s02176/impl"
)

// The numbers stand here a second time on purpose: they are part of what is stored and answered.
func TestConstants(t *testing.T) {
	rows := []struct {
		name      string
		got, want int
	}{
		{"MaxFiles", impl.MaxFiles, 1000}, {"MaxFile", impl.MaxFile, 40},
		{"MaxDisk", impl.MaxDisk, 1000000000}, {"MaxCount", impl.MaxCount, 1000000000000000},
		{"DiskOK", impl.DiskOK, 0}, {"DiskDown", impl.DiskDown, 1}, {"DiskFailed", impl.DiskFailed, 2},
		{"DiskFull", impl.DiskFull, 3}, {"DiskMissing", impl.DiskMissing, 4},
		{"DiskExists", impl.DiskExists, 5}, {"DiskBad", impl.DiskBad, 6},
		{"DoCreate", impl.DoCreate, 1}, {"DoAppend", impl.DoAppend, 2}, {"DoSync", impl.DoSync, 3},
		{"DoTruncate", impl.DoTruncate, 4}, {"DoRename", impl.DoRename, 5}, {"DoDelete", impl.DoDelete, 6},

		{"MaxPayload", impl.MaxPayload, 60000}, {"MaxSegments", impl.MaxSegments, 999999},
		{"FrameHead", impl.FrameHead, 8},
		{"LogOK", impl.LogOK, 0}, {"LogCorrupt", impl.LogCorrupt, 20}, {"LogGap", impl.LogGap, 21},
		{"LogTooBig", impl.LogTooBig, 22}, {"LogEnd", impl.LogEnd, 23},

		{"MaxLabels", impl.MaxLabels, 16}, {"MaxName", impl.MaxName, 64}, {"MaxValue", impl.MaxValue, 128},
		{"LabelsOK", impl.LabelsOK, 0}, {"LabelsMany", impl.LabelsMany, 40}, {"LabelsName", impl.LabelsName, 41},
		{"LabelsUtf8", impl.LabelsUtf8, 42}, {"LabelsLong", impl.LabelsLong, 43},
		{"LabelsControl", impl.LabelsControl, 44}, {"LabelsTwice", impl.LabelsTwice, 45},
		{"LabelsMetric", impl.LabelsMetric, 46},

		{"MaxTenant", impl.MaxTenant, 32}, {"MaxLimit", impl.MaxLimit, 1000000},
		{"MaxClock", impl.MaxClock, 1000000000000}, {"MaxWindow", impl.MaxWindow, 1000000000},
		{"MaxShards", impl.MaxShards, 64}, {"MaxTenants", impl.MaxTenants, 10000},
		{"VerdictKnown", impl.VerdictKnown, 1}, {"VerdictNew", impl.VerdictNew, 2},
		{"VerdictTenant", impl.VerdictTenant, 3}, {"VerdictMetric", impl.VerdictMetric, 4},
		{"VerdictBad", impl.VerdictBad, 5}, {"VerdictNaN", impl.VerdictNaN, 6},

		{"MaxBatch", impl.MaxBatch, 500}, {"MaxLsn", impl.MaxLsn, 1000000000000000},
		{"RecSeries", impl.RecSeries, 1}, {"RecTick", impl.RecTick, 2}, {"RecLimit", impl.RecLimit, 3},
		{"NodeOK", impl.NodeOK, 0}, {"NodeRefused", impl.NodeRefused, 60}, {"NodeConfig", impl.NodeConfig, 61},
		{"NodeState", impl.NodeState, 62}, {"NodeReplay", impl.NodeReplay, 63},

		{"MaxRequest", impl.MaxRequest, 60000},
		{"AskWrite", impl.AskWrite, 1}, {"AskTick", impl.AskTick, 2}, {"AskLimit", impl.AskLimit, 3},
		{"AskCheckpoint", impl.AskCheckpoint, 4}, {"AskCount", impl.AskCount, 5}, {"AskDump", impl.AskDump, 6},
		{"ReplyOK", impl.ReplyOK, 0}, {"ReplyMalformed", impl.ReplyMalformed, 1},
		{"ReplyRefused", impl.ReplyRefused, 2}, {"ReplyUnavailable", impl.ReplyUnavailable, 3},
		{"ReplyDown", impl.ReplyDown, 4},

		{"MaxScript", impl.MaxScript, 20000}, {"MaxLines", impl.MaxLines, 500},
	}
	for _, r := range rows {
		if r.got != r.want {
			t.Errorf("%s is %d, not %d", r.name, r.got, r.want)
		}
	}
}
