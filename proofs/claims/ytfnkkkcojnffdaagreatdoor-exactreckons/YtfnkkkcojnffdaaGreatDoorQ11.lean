/- What is proved here: contracts of the reference's big numbers: twin, over this seat's translation. -/
import Derived.Test.YtfnkkkcojnffdaaGreatDoorQ1
import Derived.Test.YtfnkkkcojnffdaaGreatDoorQ9
import Derived.Laws.OwnMore
namespace Go.Proofs.YtfnkkkcojnffdaaGreatDoor
open Go.ChangeShapes Go.WideShapes Go.ChangeAt Go.RowKit
open BN
theorem addr_add (b o i:Nat):(⟨b,o,none⟩:Addr).add i=⟨b,o+i,none⟩:=Addr.add_lit ..
/-- A row that append laid is a slice of the words. -/
theorem q0x {w:World} {A:Nat} {e:TypeId} {v:Value} {l:List Nat} (C:canon l)
  (h:w.ownsRow A e 1 v l.length (l.map fun d=> .int .u32 (d:Nat))):Num w v (val l):=by
 refine⟨l,⟨C.1,?_⟩,C,rfl⟩;have E:=h;obtain⟨-,⟨rfl,F⟩|⟨g,cap,D,rfl,I,hb,B,-⟩⟩:=h
 ·exact Or.inl ⟨aH F,none,0,rfl⟩
 ·refine Or.inr ⟨g,0,cap,rfl,B,?_,fun i hi=> ?_⟩
  ·exact(bg.1 hb).1
  ·rw[aD,E.cellAt i eK,de,aE hi,ad,aE hi];rfl
theorem kC (w:World) (va:Value) (a K:Nat) (hK:K≤1000000) (W:Num w va a) (D:a<2^(32*K)):
  Calls Tryz.prog 124 #[va] w (eU w a):=by
 obtain⟨l,i,E,rfl⟩:=W;have m:=eQ E D;clear D;rcases Sl.cases i with ⟨rfl,p,c,rfl⟩|⟨s,b,o,c,rfl,X,hb,y⟩
 ·cases p
  all_goals
   go_enter Tryz.func124,Tryz.ntmps124;go_wp2_with fail;go_ret;exact⟨_,rfl,ag _,gF _ _ _⟩
 ·obtain⟨i0,hi,L⟩:=bP.1 pX;have M:i0.zero=some (.int .u32 0):=congrArg (fun t=>t.1) L;have N:i0.size=1:=congrArg (fun t=>t.2.1) L;have O:i0.bytes=4:=congrArg (fun t=>t.2.2) L;have C:∀ j u,(l.map fun d=>Value.int .u32 (d:Nat))[j]? =some u→w.cell? ((⟨b,o,none⟩:Addr).add j)=some u:=by
   intro j u S;rw[de] at S;obtain⟨d,R,rfl⟩:=bP.1 S;have I:=(aV.1 R).1;have:=y j I;rw[ad,R] at this;rw[addr_add];exact this
  have h1:∀ u∈(l.map fun d=>Value.int .u32 (d:Nat)),u.oneCell'=true:=by
   intro u hu;obtain⟨d,-,rfl⟩:=List.mem_map.1 hu;rfl
  have J:(l.map fun d=>Value.int .u32 (d:Nat)).length=l.length*1:=by simp
  go_enter Tryz.func124,Tryz.ntmps124;go_wp2_with (at_builtin;refine wpList_append_own _ rfl _ _ 41 rfl w.heap.size 149 i0 (.int .u32 0) 1 4 Tryz.underlying41 hi M N O rfl ff (.slice none 0 0) 0 [] rfl (World.ownsRow_nil w _ _ _) ⟨b,o,none⟩ l.length c _ rfl J C h1 (by unfold maxLen;omega) eK (az _) ?_;intro e w1 A B U);rw[aD,bW] at A;have Y:G w w1:=Below.grown (Below.refl _ _) B (az _) (fun k Z=>by cases Z);have F:=q0x E A;go_ret;exact⟨e,rfl,Y,F⟩
end Go.Proofs.YtfnkkkcojnffdaaGreatDoor
