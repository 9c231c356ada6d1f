/- What is proved here: contracts of the reference's big numbers: twin, over this seat's translation. -/
import Derived.Test.YtbfjihniphldaaaGreatDoorC3
import Derived.Laws.OwnMore
namespace Go.Proofs.YtbfjihniphldaaaGreatDoor
open Go.ChangeShapes Go.WideShapes Go.ChangeAt Go.RowKit
open BN
theorem addr_add (b o i:Nat):(⟨b,o,none⟩:Addr).add i=⟨b,o+i,none⟩:=Addr.add_lit ..
/-- A row that append laid is a slice of the words. -/
theorem q9g {w:World} {base:Nat} {e:TypeId} {v:Value} {l:List Nat} (hc:canon l)
  (h:w.ownsRow base e 1 v l.length (l.map fun d=> .int .u32 (d:Nat))):Num w v (val l):=by
 refine⟨l,⟨hc.1,?_⟩,hc,rfl⟩;have h0:=h;obtain⟨-,⟨rfl,hn⟩|⟨g,cap,cur,rfl,hg,hb,hcap,-⟩⟩:=h
 ·exact Or.inl ⟨List.eq_nil_of_length_eq_zero hn,none,0,rfl⟩
 ·refine Or.inr ⟨g,0,cap,rfl,hcap,?_,fun i hi=> ?_⟩
  ·exact(Array.getElem?_eq_some_iff.1 hb).1
  ·rw[Nat.zero_add,h0.cellAt i (by omega),List.getElem?_map,List.getElem?_eq_getElem hi,List.getD_eq_getElem?_getD,List.getElem?_eq_getElem hi];rfl
theorem q67 (w:World) (va:Value) (a K:Nat) (hK:K≤1000000) (ha:Num w va a) (ha2:a<2^(32*K)):
  Calls Tryz.prog 171 #[va] w (q0e w a):=by
 obtain⟨l,hl,hcl,rfl⟩:=ha;have hll:=q06 hcl ha2;clear ha2;rcases Sl.cases hl with ⟨rfl,p,c,rfl⟩|⟨hne,b,o,c,rfl,hcc,hb,hr⟩
 ·cases p
  all_goals
   go_enter Tryz.func171,Tryz.ntmps171;go_wp2_with fail;go_ret;exact⟨_,rfl,G.refl _,num_nil _ _ _⟩
 ·obtain⟨i0,hi,hz⟩:=Option.map_eq_some_iff.1 q7Q;have hz0:i0.zero=some (.int .u32 0):=congrArg (fun t=>t.1) hz;have hz1:i0.size=1:=congrArg (fun t=>t.2.1) hz;have hz2:i0.bytes=4:=congrArg (fun t=>t.2.2) hz;have hnews:∀ j u,(l.map fun d=>Value.int .u32 (d:Nat))[j]? =some u→w.cell? ((⟨b,o,none⟩:Addr).add j)=some u:=by
   intro j u hj;rw[List.getElem?_map] at hj;obtain⟨d,hd,rfl⟩:=Option.map_eq_some_iff.1 hj;have hjl:=(List.getElem?_eq_some_iff.1 hd).1;have:=hr j hjl;rw[List.getD_eq_getElem?_getD,hd] at this;rw[addr_add];exact this
  have h1:∀ u∈(l.map fun d=>Value.int .u32 (d:Nat)),u.oneCell'=true:=by
   intro u hu;obtain⟨d,-,rfl⟩:=List.mem_map.1 hu;rfl
  have hlm:(l.map fun d=>Value.int .u32 (d:Nat)).length=l.length*1:=by simp
  go_enter Tryz.func171,Tryz.ntmps171;go_wp2_with (at_builtin;refine wpList_append_own _ rfl _ _ 36 rfl w.heap.size 187 i0 (.int .u32 0) 1 4 Tryz.underlying36 hi hz0 hz1 hz2 rfl (by decide) (.slice none 0 0) 0 [] rfl (World.ownsRow_nil w _ _ _) ⟨b,o,none⟩ l.length c _ rfl hlm hnews h1 (by unfold maxLen;omega) (by omega) (Nat.le_refl _) ?_;intro v' w1 hown' hgrow hnil);rw[Nat.zero_add,List.nil_append] at hown';have hg:G w w1:=Below.grown (Below.refl _ _) hgrow (Nat.le_refl _) (fun k hk=>by cases hk);have Jj:=q9g hcl hown';go_ret;exact⟨v',rfl,hg,Jj⟩
end Go.Proofs.YtbfjihniphldaaaGreatDoor
