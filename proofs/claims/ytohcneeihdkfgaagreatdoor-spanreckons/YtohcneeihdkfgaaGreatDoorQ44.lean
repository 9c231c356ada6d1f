/- What is proved here: the lesser of two floats that are not below 0 (no program). -/
import Derived.Test.YtohcneeihdkfgaaGreatDoorQ1
import Derived.Test.YtohcneeihdkfgaaGreatDoorQ37
import GoSem.Extern.MathDim
namespace Go.Proofs.YtohcneeihdkfgaaGreatDoor.EN
open Go.ChangeShapes Go.WideShapes Go.ChangeAt Go.RowKit
theorem q3a {x:Nat} (A:x≤2047*2^52):FT.rung x=x∧FT.neg x=false∧FT.nan x=false:=by
 have h1:=FT.wrd_rung false x eX;have h2:=FT.wrd_neg false x eX;have h3:=ki false A;rw[show FT.wrd false x=x from rfl] at h1 h2 h3;exact⟨h1,h2,h3⟩
end Go.Proofs.YtohcneeihdkfgaaGreatDoor.EN
