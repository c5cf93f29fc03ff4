
/- Facts of the program as a whole that every row asks, proved once. -/
import Derived.Test.YtjagobcogkdfhaaRows
import Derived.Test.YtjagobcogkdfhaaTopo
import Derived.Test.YtjagobcogkdfhaaOpenL
namespace Go.Proofs.Ytjagobcogkdfhaa

theorem Try.mapsRowed : mapsRowed Try.prog = true := by kernel_rfl
theorem Try.plainKeys : Try.prog.plainKeys = Rows.fnScansRow.plainKeys := by kernel_rfl
theorem Try.stopsHeard : Try.prog.stopsHeard = true := by kernel_rfl
theorem Try.mayEnter : Try.prog.mayEnter = true := by kernel_rfl
theorem Try.lifts : Try.prog.liftsFinal = Rows.fnScansRow.lifted := by kernel_rfl
theorem Try.maker : Try.prog.make = some Rows.fnScansRow.make := by kernel_rfl
end Go.Proofs.Ytjagobcogkdfhaa
