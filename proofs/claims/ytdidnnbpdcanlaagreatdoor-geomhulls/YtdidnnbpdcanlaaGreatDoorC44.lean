/- What is proved here: slices of floats as arguments, over this seat's translation (no program). -/
import Derived.Test.YtdidnnbpdcanlaaGreatDoorC34
import Derived.ChangeArms
import Derived.Deep.Slices
namespace Go.Proofs.YtdidnnbpdcanlaaGreatDoor.EN
open Go.ChangeShapes Go.WideShapes Go.ChangeAt Go.RowKit
theorem q6G {w:World} {a:Addr} {v:Value} (h:w.cell? (a.add 0)=some v):∃ b o,a=⟨b,o,none⟩∧b<w.heap.size:=by
 obtain⟨b,o,s⟩:=a
 have h2:w.cell? ⟨b,o,s⟩=some v:=h
 have hlt:=World.block_lt_of_cell? w ⟨b,o,s⟩ h2
 cases s with
 |none=>exact⟨b,o,rfl,hlt⟩
 |some s=>
  exfalso
  simp only[World.cell?] at h2
  split at h2
  ·simp at h2
  ·cases h2
section
variable {H:Type} {enc:TypeId×Value→H} {P:Program} {w:World} {base fuel:Nat} {spare:Nat→Bool} {held:Bool} {t e:TypeId}
def bitsOf:Value→Nat
 | .float _ b=>b
 |_=>0
end
end Go.Proofs.YtdidnnbpdcanlaaGreatDoor.EN
