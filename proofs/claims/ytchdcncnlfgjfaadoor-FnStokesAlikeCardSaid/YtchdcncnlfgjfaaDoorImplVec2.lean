/-
  The program's methods of vectors: mirror, powers, plus, times.
-/
import Derived.Test.YtchdcncnlfgjfaaDoorImplBoth1
import Derived.Test.YtchdcncnlfgjfaaDoorImplBoth2
import Derived.Test.YtchdcncnlfgjfaaDoorImplBoth3
namespace Go.Proofs.YtchdcncnlfgjfaaDoor
open Go.ChangeShapes Go.WideShapes Go.ChangeAt Go.RowKit
set_option linter.unusedVariables false

end Go.Proofs.YtchdcncnlfgjfaaDoor
