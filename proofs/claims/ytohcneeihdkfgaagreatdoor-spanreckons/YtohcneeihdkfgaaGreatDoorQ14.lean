/- What is proved here: contracts of the reference's big numbers: twin, over this seat's translation. -/
import Derived.Test.YtohcneeihdkfgaaGreatDoorQ1
import Derived.Test.YtohcneeihdkfgaaGreatDoorQ11
import Derived.Laws.OwnMore
namespace Go.Proofs.YtohcneeihdkfgaaGreatDoor
open Go.ChangeShapes Go.WideShapes Go.ChangeAt Go.RowKit
open BN
theorem addr_add (b o i:Nat):(⟨b,o,none⟩:Addr).add i=⟨b,o+i,none⟩:=Addr.add_lit ..
/-- A row that append laid is a slice of the words. -/
theorem q37 {w:World} {A:Nat} {e:TypeId} {v:Value} {l:List Nat} (C:canon l)
  (h:w.ownsRow A e 1 v l.length (l.map fun d=> .int .u32 (d:Nat))):Num w v (val l):=by
 refine⟨l,⟨C.1,?_⟩,C,rfl⟩;have E:=h;obtain⟨-,⟨rfl,F⟩|⟨g,cap,D,rfl,I,hb,B,-⟩⟩:=h
 ·exact Or.inl ⟨aN F,none,0,rfl⟩
 ·refine Or.inr ⟨g,0,cap,rfl,B,?_,fun i hi=> ?_⟩
  ·exact(cG.1 hb).1
  ·rw[aK,E.cellAt i eX,en,aQ hi,ak,aQ hi];rfl
theorem qj (w:World) (va:Value) (a K:Nat) (hK:K≤1000000) (W:Num w va a) (D:a<2^(32*K)):
  Calls Tryz.prog 169 #[va] w (fo w a):=by
 obtain⟨l,i,E,rfl⟩:=W;have m:=fg E D;clear D;rcases Sl.cases i with ⟨rfl,p,c,rfl⟩|⟨s,b,o,c,rfl,X,hb,y⟩
 ·cases p
  all_goals
   go_enter Tryz.func169,Tryz.ntmps169;go_wp2_with fail;go_ret;exact⟨_,rfl,ad _,ir _ _ _⟩
 ·obtain⟨i0,hi,L⟩:=cQ.1 q0I;have M:i0.zero=some (.int .u32 0):=congrArg (fun t=>t.1) L;have N:i0.size=1:=congrArg (fun t=>t.2.1) L;have O:i0.bytes=4:=congrArg (fun t=>t.2.2) L;have C:∀ j u,(l.map fun d=>Value.int .u32 (d:Nat))[j]? =some u→w.cell? ((⟨b,o,none⟩:Addr).add j)=some u:=by
   intro j u S;rw[en] at S;obtain⟨d,R,rfl⟩:=cQ.1 S;have I:=(bM.1 R).1;have:=y j I;rw[ak,R] at this;rw[addr_add];exact this
  have h1:∀ u∈(l.map fun d=>Value.int .u32 (d:Nat)),u.oneCell'=true:=by
   intro u hu;obtain⟨d,-,rfl⟩:=List.mem_map.1 hu;rfl
  have J:(l.map fun d=>Value.int .u32 (d:Nat)).length=l.length*1:=by simp
  go_enter Tryz.func169,Tryz.ntmps169;go_wp2_with (at_builtin;refine wpList_append_own _ rfl _ _ 41 rfl w.heap.size 182 i0 (.int .u32 0) 1 4 Tryz.underlying41 hi M N O rfl fk (.slice none 0 0) 0 [] rfl (World.ownsRow_nil w _ _ _) ⟨b,o,none⟩ l.length c _ rfl J C h1 (by unfold maxLen;omega) eX (aI _) ?_;intro e w1 A B U);rw[aK,List.nil_append] at A;have Y:G w w1:=Below.grown (Below.refl _ _) B (aI _) (fun k Z=>by cases Z);have F:=q37 E A;go_ret;exact⟨e,rfl,Y,F⟩
end Go.Proofs.YtohcneeihdkfgaaGreatDoor
