
/- Walks of the fault of a record: the program's. -/
import Derived.Test.YtlpncikiaojmiaaRecW
namespace Go.Proofs.Ytlpncikiaojmiaa
open Go.RowKit

/-- The code of a change. -/
def Ch.chg (ky : Int) (hd : Bool) (ol : Int) (hs : Bool) (nw : Int) : Int :=
  if !Ch.inB ky 0 99 || !Ch.inB ol 0 9999 || !Ch.inB nw 0 9999 then 3 else if !hd && ol != 0 || !hs && nw != 0 then 1 else 0

end Go.Proofs.Ytlpncikiaojmiaa
