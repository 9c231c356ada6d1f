/- What is proved here: the law ExpanTells, over this seat's translation. -/
import Derived.Test.YtljkfjjchkehaaaGreatDoorC33
import Derived.Test.YtljkfjjchkehaaaGreatDoorC39
import Derived.Test.YtljkfjjchkehaaaGreatDoorC40
import Derived.Test.YtljkfjjchkehaaaGreatDoorC41
namespace Go.Proofs.YtljkfjjchkehaaaGreatDoor.EN
open Go.RowKit
theorem q3L (l:List Nat) (hl:∀ b∈l,b<2^64):∃ c a,Listed l c a∧(c=0→a=0∧l.length≤2000∧Fin l):=by
 by_cases h1:2000<l.length
 ·exact⟨2,0,Or.inl ⟨h1,rfl,rfl⟩,fun h=>absurd h (by decide)⟩
 ·rcases qal l hl with h2|⟨i,k1,k2,k3⟩
  ·exact⟨0,0,Or.inr (Or.inl ⟨by omega,rfl,rfl,h2⟩),fun _=>⟨rfl,by omega,h2⟩⟩
  ·exact⟨4,i,Or.inr (Or.inr ⟨by omega,i,rfl,rfl,k1,by omega,k3⟩),fun h=>absurd h (by decide)⟩
theorem expanTells_c (w:World) (v u:Value) (l m:List Nat) (hT:Tab w) (hv:FSl w v l) (hu:FSl w u m) (hl:∀ b∈l,b<2^64) (hm:∀ b∈m,b<2^64):
  Calls Tryz.prog 3 #[v,u] w fun e w'=>e= .returned (.bool true)∧G w w':=by
 by_cases hn:(l.length≤300∨(2000<l.length∧l.length<5000))∧(m.length≤300∨(2000<m.length∧m.length<5000))
 ·obtain⟨c,a,h1,h2⟩:=q3L l hl
  obtain⟨c',a',h3,h4⟩:=q3L m hm
  by_cases hc:c=0
  ·subst hc
   obtain⟨rfl,h5,h6⟩:=h2 rfl
   by_cases hc':c'=0
   ·subst hc'
    obtain⟨rfl,h7,h8⟩:=h4 rfl
    exact q6E w v u l m hT hv hu hl hm h5 hn.1 h6 h7 hn.2 h8 h1 h3
   ·exact q6p w v u l m hT hv hu hl hm h5 hn.1 h6 hn.2 c' a' hc' h1 h3
  ·exact q7o w v u l m hT hv hu hl hm hn.1 hn.2 c a c' a' hc h1 h3
 ·obtain⟨pa,ca,rfl,-,-⟩:=hv
  obtain⟨pb,cb,rfl,-,-⟩:=hu
  exact q6B w pa pb l.length ca m.length cb hT hn
end Go.Proofs.YtljkfjjchkehaaaGreatDoor.EN
