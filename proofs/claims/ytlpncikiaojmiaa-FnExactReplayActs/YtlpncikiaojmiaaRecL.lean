
/- RecFault of the program, and the law FnExactRecFault. -/
import Derived.Test.YtlpncikiaojmiaaRecI
namespace Go.Proofs.Ytlpncikiaojmiaa
open Go.RowKit

theorem Ch.fault_of_chg (r : Ch.Rec) (h1 : Ch.inB r.kd 1 5 = true) (h2 : Ch.inB r.tx 1 999 = true) (h3 : Ch.sets r.kd = true) : r.fault = Ch.chg r.ky r.hd r.ol r.hs r.nw := by
  unfold Ch.Rec.fault Ch.chg
  simp [h1, h2, h3]

end Go.Proofs.Ytlpncikiaojmiaa
