/- What is proved here: contracts of package exact: clones, over this seat's translation.
What is proved here: contracts of package exact: copied, minus, over this seat's translation. -/
import Derived.Test.YtbfjihniphldaaaGreatDoorC16
import Derived.Laws.OwnMore
import Derived.Test.YtbfjihniphldaaaGreatDoorC14
namespace Go.Proofs.YtbfjihniphldaaaGreatDoor.EN
open Go.ChangeShapes Go.WideShapes Go.ChangeAt Go.RowKit
set_option maxRecDepth 100000 in
theorem qaN (w:World) (b o c:Nat) (l:List Nat) (hne:l≠[]) (hll:l.length≤1000000) (hb:b<w.heap.size) (hok:okw l) (hr:Row w b o l):
  Calls Tryz.prog 224 #[.slice (some ⟨b,o,none⟩) l.length c] w fun e w'=>∃ b2 c2,e= .returned (.slice (some ⟨b2,0,none⟩) l.length c2)∧l.length≤c2∧w.heap.size≤b2∧Own w' b2 l∧G w w':=by
 have q22:∀ (w:World) (a:Option Addr) (n c n' c':Nat),(binOp .eql 26 (.slice a n c) (.slice none n' c')).run Tryz.prog w= .ok (.bool a.isNone) w:=fun w a n c n' c'=>Lib.run_eql_slice_nil w _ _ a n c n' c' Tryz.underlying26;obtain⟨i0,hi,hz⟩:=Option.map_eq_some_iff.1 q5Q;have hz0:i0.zero=some (.int .u64 0):=congrArg (fun t=>t.1) hz;have hz1:i0.size=1:=congrArg (fun t=>t.2.1) hz;have hz2:i0.bytes=8:=congrArg (fun t=>t.2.2) hz;have hnews:=q2B hr;have HN:Hid _:=hnews;have H1:Hid _:=q2J l;have hlm:(l.map fun d=>Value.int .u64 (d:Nat)).length=l.length*1:=by simp
 have HB:Hid _:=hb;have gJ:Hid _:=hne;have HR:Hid _:=hr;have hl0:0<l.length:=List.length_pos_iff.2 hne;clear hnews hb hne hr hz;go_enter Tryz.func224,Tryz.ntmps224;go_wp2_with (at_builtin;refine wpList_append_own _ rfl _ _ 26 rfl w.heap.size 85 i0 (.int .u64 0) 1 8 Tryz.underlying26 hi hz0 hz1 hz2 rfl (by decide) _ _ _ rfl (World.ownsRow_made w #[] 0 (Nat.le_refl _) (Nat.zero_le _) rfl) ⟨b,o,none⟩ l.length c _ rfl hlm ?qc2 H1.out (by unfold maxLen;omega) (by omega) ?qc6 ?_)
 case qc2=>
  intro j u hj;exact Lib.cell?_alloc_some _ (HN.out j u hj)
 case qc6=>simp
 intro v' w1 hown hgrow hnil;go_wp2;have hG:G w w1:=((Below.refl _ w).alloc (Nat.le_refl _) _).grown hgrow (by simp) (by intro k hk;simp [Value.ownBlock] at hk;omega);have h0:=hown;obtain⟨-,⟨rfl,hn⟩|⟨g,cap,cur,rfl,hg,hbk,hcap,-⟩⟩:=hown
 ·omega
 ·go_ret;refine⟨g,cap,rfl,hcap,hg,⟨hok,(Array.getElem?_eq_some_iff.1 hbk).1,fun i hi=> ?_,fun i hi=>h0.frozenAt i⟩,hG⟩;rw[Nat.zero_add,h0.cellAt i (by omega),List.getElem?_map,List.getElem?_eq_getElem hi,List.getD_eq_getElem?_getD,List.getElem?_eq_getElem hi];rfl
theorem q8q (w:World) (c:Nat):
  Calls Tryz.prog 224 #[.slice none 0 c] w fun e w'=>e= .returned (.slice none 0 0)∧G w w':=by
 have q22:∀ (w:World) (a:Option Addr) (n c n' c':Nat),(binOp .eql 26 (.slice a n c) (.slice none n' c')).run Tryz.prog w= .ok (.bool a.isNone) w:=fun w a n c n' c'=>Lib.run_eql_slice_nil w _ _ a n c n' c' Tryz.underlying26;go_enter Tryz.func224,Tryz.ntmps224;go_wp2;go_ret;exact⟨rfl,G.refl _⟩
set_option maxRecDepth 100000 in
theorem q6W (w:World) (a:Addr) (c:Nat):
  Calls Tryz.prog 224 #[.slice (some a) 0 c] w fun e w'=>∃ p c2,e= .returned (.slice p 0 c2)∧G w w':=by
 have q22:∀ (w:World) (a:Option Addr) (n c n' c':Nat),(binOp .eql 26 (.slice a n c) (.slice none n' c')).run Tryz.prog w= .ok (.bool a.isNone) w:=fun w a n c n' c'=>Lib.run_eql_slice_nil w _ _ a n c n' c' Tryz.underlying26;obtain⟨i0,hi,hz⟩:=Option.map_eq_some_iff.1 q5Q;have hz0:i0.zero=some (.int .u64 0):=congrArg (fun t=>t.1) hz;have hz1:i0.size=1:=congrArg (fun t=>t.2.1) hz;have hz2:i0.bytes=8:=congrArg (fun t=>t.2.2) hz;clear hz;go_enter Tryz.func224,Tryz.ntmps224;go_wp2_with (at_builtin;refine wpList_append_own _ rfl _ _ 26 rfl w.heap.size 85 i0 (.int .u64 0) 1 8 Tryz.underlying26 hi hz0 hz1 hz2 rfl (by decide) _ _ _ rfl (World.ownsRow_made w #[] 0 (Nat.le_refl _) (Nat.zero_le _) rfl) a 0 c [] rfl rfl (by intro j u hj;simp at hj) (by intro u hu;cases hu) (by unfold maxLen;omega) (by omega) (by simp) ?_);intro v' w1 hown hgrow hnil;go_wp2;have hG:G w w1:=((Below.refl _ w).alloc (Nat.le_refl _) _).grown hgrow (by simp) (by intro k hk;simp [Value.ownBlock] at hk;omega);obtain⟨-,⟨rfl,hn⟩|⟨g,cap,cur,rfl,hg,hbk,hcap,-⟩⟩:=hown
 ·go_ret;exact⟨_,_,rfl,hG⟩
 ·go_ret;exact⟨_,_,rfl,hG⟩
theorem q50 (w:World) (b o c:Nat) (l:List Nat) (hne:l≠[]) (hll:l.length≤1000000) (hb:b<w.heap.size) (hok:okw l) (hr:Row w b o l):
  Calls Tryz.prog 181 #[.slice (some ⟨b,o,none⟩) l.length c] w fun e w'=>∃ b2 c2,e= .returned (.slice (some ⟨b2,0,none⟩) l.length c2)∧l.length≤c2∧w.heap.size≤b2∧Own w' b2 l∧G w w':=by
 have K:Hid _:=qaN w b o c l hne hll hb hok hr;go_enter Tryz.func181,Tryz.ntmps181;go_wp2_with fail;refine q00 K.out ?_;rintro e w1 ⟨b2,c2,rfl,h1,h2,h3,h4⟩;go_wp2_with fail;go_ret;exact⟨b2,c2,rfl,h1,h2,h3,h4⟩
theorem q3w (w:World) (p:Option Addr) (c:Nat):
  Calls Tryz.prog 181 #[.slice p 0 c] w fun e w'=>∃ p2 c2,e= .returned (.slice p2 0 c2)∧G w w':=by
 cases p with
 |none=>
  have K:Hid _:=q8q w c;go_enter Tryz.func181,Tryz.ntmps181;go_wp2_with fail;refine q00 K.out ?_;rintro e w1 ⟨rfl,h4⟩;go_wp2_with fail;go_ret;exact⟨_,_,rfl,h4⟩
 |some a=>
  have K:Hid _:=q6W w a c;go_enter Tryz.func181,Tryz.ntmps181;go_wp2_with fail;refine q00 K.out ?_;rintro e w1 ⟨p2,c2,rfl,h4⟩;go_wp2_with fail;go_ret;exact⟨_,_,rfl,h4⟩
theorem q8Q (w:World) (va:Value) (a K:Nat) (hK:K≤1000000) (ha:Num w va a) (ha2:a<2^(64*K)):
  Calls Tryz.prog 181 #[va] w (q0e w a):=by
 obtain⟨l,hl,hcl,rfl⟩:=ha;have hll:=q06 hcl ha2;rcases Sl.cases hl with ⟨rfl,p,c,rfl⟩|⟨hne,b,o,c,rfl,hcc,hb,hr⟩
 ·refine(q3w w p c).mono ?_;rintro e w' ⟨p2,c2,rfl,hG⟩;exact⟨_,rfl,hG,[],⟨q1f,Or.inl ⟨rfl,_,_,rfl⟩⟩,q0Y,rfl⟩
 ·refine(q50 w b o c l hne (by omega) hb hl.1 hr).mono ?_;rintro e w' ⟨b2,c2,rfl,h1,-,h3,h4⟩;exact⟨_,rfl,h4,l,h3.sl _ h1,hcl,rfl⟩
theorem q5m (w:World) (p pb:Option Addr) (c j cb:Nat) (f:Nat):
  Calls Tryz.prog 182 #[.slice p 0 c,.slice pb j cb,.int .u64 (f:Int)] w fun e w'=>∃ s,e= .returned (.bool s)∧G w w':=by
 go_enter Tryz.func182,Tryz.ntmps182;go_wp2;refine wp_loop_rounds 1 ?_;rw[rounds_succ];go_wp2;go_ret;exact⟨_,rfl,G.refl _⟩
theorem q6T (w:World) (va vb:Value) (l m:List Nat) (hl:Sl w va l) (hm:Sl w vb m) (hlen:m.length≤l.length) (hll:l.length≤1000000) (hle:val m≤val l):
  Calls Tryz.prog 124 #[va,vb] w (q0e w (val l-val m)):=by
 have HM:Hid _:=hm;rcases Sl.cases hl with ⟨rfl,p,c,rfl⟩|⟨hne,b,o,c,rfl,hcc,hb,hr⟩
 ·obtain⟨pb,cb,rfl,-,-⟩:=q0n hm;have K:Hid _:=q3w w p c;go_enter Tryz.func124,Tryz.ntmps124;have e0:val m=0:=by simpa [val] using hle
  have HE:Hid _:=e0;clear e0 hl hm hlen hll hle;go_wp2_with fail;refine q00 K.out ?_;rintro e w1 ⟨p2,c2,rfl,h1⟩;have K2:Hid _:=q5m w1 p2 pb c2 m.length cb 1;go_wp2_with fail;refine q00 K2.out ?_;rintro e w2 ⟨s,rfl,h2⟩;have K3:Hid _:=trim_c w2 (.slice p2 0 c2) [] ⟨q1f,Or.inl ⟨rfl,_,_,rfl⟩⟩ (by simp);go_wp2_with fail;refine q00 K3.out ?_;rintro e w3 ⟨v1,rfl,h3,h4⟩;go_wp2_with fail;go_ret;rw[HE.out];exact⟨v1,rfl,(h1.trans h2).trans h3,h4⟩
 ·have K:Hid _:=q50 w b o c l hne hll hb hl.1 hr;have hok:=hl.1;have HL:Hid _:=hok;have nX:Hid _:=hle;have hHL:Hid _:=hlen;have Eu:Hid _:=hll;have hmz:∀ b2 o2 n2 c2,vb= .slice (some ⟨b2,o2,none⟩) n2 c2→m≠[]→b2<w.heap.size:=by
   intro b2 o2 n2 c2 e hne;rcases hm.2 with ⟨h,-⟩|⟨b3,o3,c3,e3,-,h3,-⟩
   ·exact absurd h hne
   ·rw[e] at e3;injection e3 with e4;injection e4 with e5;injection e5 with e6;omega
  have Te:Hid _:=hmz;clear hmz hr hl hm hok hle hlen;go_enter Tryz.func124,Tryz.ntmps124;go_wp2_with fail;refine q00 K.out ?_;rintro e w1 ⟨b2,c2,rfl,h1,h2,h3,h4⟩;have K2:Hid _:=q4a w1 b2 0 c2 vb l m 1 (by omega) h3.at h1 (Sl.G (show Sl w vb m from HM.out) h4) (fun b3 o3 n3 c3 e hne=>by have:=Te.out b3 o3 n3 c3 e hne;omega) hHL.out (by have:=Eu.out;omega);rw[show ((1:Nat):Int)=1 from rfl,Nat.one_mul] at K2;clear h3 K;go_wp2_with fail;refine q00 K2.out ?_;rintro e w2 ⟨cs,q,rfl,hcl,hAt,fD,hcv⟩;have hfin:val cs=val l-val m:=by
   have h5:=q0v hAt.ok;have h6:=nX.out;have h8:=q0v HL.out;rw[hcl] at h5;have h7:q=0:=by
    apply Classical.byContradiction;intro hq;have:2^(64*l.length)*1≤2^(64*l.length)*q:=Nat.mul_le_mul_left _ (by omega);omega
   rw[h7] at hcv;omega
  have Ev:G w w2:=GB.fresh h4 fD h2;have K3:Hid _:=trim_c w2 (.slice (some ⟨b2,0,none⟩) l.length c2) cs (by have:=hAt.sl c2 (by omega);rwa[hcl] at this) (by have:=Eu.out;omega);rw[hfin] at K3;have zT:Hid _:=Ev;clear hfin Ev hcv fD hAt hcl K2 h4;go_wp2_with fail;refine q00 K3.out ?_;rintro e w3 ⟨v1,rfl,h5,h6⟩;go_wp2_with fail;go_ret;exact⟨v1,rfl,G.trans zT.out h5,h6⟩
theorem q46 (w:World) (va vb:Value) (a b K:Nat) (hK:K≤1000000) (ha:Num w va a) (hb:Num w vb b) (ha2:a<2^(64*K)) (hle:b≤a):
  Calls Tryz.prog 124 #[va,vb] w (q0e w (a-b)):=by
 obtain⟨l,hl,hcl,rfl⟩:=ha;obtain⟨m,hm,hcm,rfl⟩:=hb;have hll:=q06 hcl ha2;refine q6T w va vb l m hl hm ?_ (by omega) hle;by_cases h:m.length≤l.length
 ·exact h
 ·have:=q0J hcl hcm (by omega);omega
end Go.Proofs.YtbfjihniphldaaaGreatDoor.EN
