/- What is proved here: contracts of package exact: clones, over this seat's translation.
What is proved here: contracts of package exact: copied, minus, over this seat's translation. -/
import Derived.Test.YtohcneeihdkfgaaGreatDoorQ1
import Derived.Test.YtohcneeihdkfgaaGreatDoorQ3
import Derived.Test.YtohcneeihdkfgaaGreatDoorQ24
import Derived.Laws.OwnMore
import Derived.Test.YtohcneeihdkfgaaGreatDoorQ8
namespace Go.Proofs.YtohcneeihdkfgaaGreatDoor.EN
open Go.ChangeShapes Go.WideShapes Go.ChangeAt Go.RowKit
set_option maxRecDepth 100000 in
theorem q4a (w:World) (b o c:Nat) (l:List Nat) (D:l≠[]) (ag:l.length≤1000000) (hb:b<w.heap.size) (L:okw l) (M:Row w b o l):
  Calls Tryz.prog 168 #[.slice (some ⟨b,o,none⟩) l.length c] w fun e Y=>∃ I U,e= .returned (.slice (some ⟨I,0,none⟩) l.length U)∧l.length≤U∧w.heap.size≤I∧Own Y I l∧G w Y:=by
 have ai:∀ (w:World) (a:Option Addr) (n c S c':Nat),(binOp .eql 25 (.slice a n c) (.slice none S c')).run Tryz.prog w= .ok (.bool a.isNone) w:=fun w a n c S c'=>Lib.run_eql_slice_nil w _ _ a n c S c' Tryz.underlying25;obtain⟨i0,hi,F⟩:=cQ.1 pN;have N:i0.zero=some (.int .u64 0):=congrArg (fun t=>t.1) F;have O:i0.size=1:=congrArg (fun t=>t.2.1) F;have R:i0.bytes=8:=congrArg (fun t=>t.2.2) F;have A:=kR M;have m:=hi9 A;have Z:=hi9 (kV l);have K:(l.map fun d=>Value.int .u64 (d:Nat)).length=l.length*1:=by simp
 have HB:=hi9 hb;have s:=hi9 D;have HR:=hi9 M;have af:0<l.length:=cq.2 D;clear A hb D M F;go_enter Tryz.func168,Tryz.ntmps168;go_wp2_with (at_builtin;refine wpList_append_own _ rfl _ _ 25 rfl w.heap.size 90 i0 (.int .u64 0) 1 8 Tryz.underlying25 hi N O R rfl fk _ _ _ rfl (World.ownsRow_made w #[] 0 (aI _) (bU _) rfl) ⟨b,o,none⟩ l.length c _ rfl K ?a1 Z.out (by unfold maxLen;omega) eX ?a6 ?_)
 case a1=>
  intro j u hj;exact Lib.cell?_alloc_some _ (m.out j u hj)
 case a6=>simp
 intro v' w1 B C X;go_wp2;have hG:G w w1:=((Below.refl _ w).alloc (aI _) _).grown C fX (by intro k hk;simp [Value.ownBlock] at hk;omega);have W:=B;obtain⟨-,⟨rfl,hn⟩|⟨g,cap,y,rfl,hg,J,E,-⟩⟩:=B
 ·omega
 ·go_ret;refine⟨g,cap,rfl,E,hg,⟨L,(cG.1 J).1,fun i hi=> ?_,fun i hi=>W.frozenAt i⟩,hG⟩;rw[aK,W.cellAt i eX,en,aQ hi,ak,aQ hi];rfl
theorem q1d (w:World) (c:Nat):
  Calls Tryz.prog 168 #[.slice none 0 c] w fun e C=>e= .returned (.slice none 0 0)∧G w C:=by
 have B:∀ (w:World) (a:Option Addr) (n c A c':Nat),(binOp .eql 25 (.slice a n c) (.slice none A c')).run Tryz.prog w= .ok (.bool a.isNone) w:=fun w a n c A c'=>Lib.run_eql_slice_nil w _ _ a n c A c' Tryz.underlying25;go_enter Tryz.func168,Tryz.ntmps168;go_wp2;go_ret;exact⟨rfl,ad _⟩
set_option maxRecDepth 100000 in
theorem s8 (w:World) (a:Addr) (c:Nat):
  Calls Tryz.prog 168 #[.slice (some a) 0 c] w fun e W=>∃ p M,e= .returned (.slice p 0 M)∧G w W:=by
 have U:∀ (w:World) (a:Option Addr) (n c I c':Nat),(binOp .eql 25 (.slice a n c) (.slice none I c')).run Tryz.prog w= .ok (.bool a.isNone) w:=fun w a n c I c'=>Lib.run_eql_slice_nil w _ _ a n c I c' Tryz.underlying25;obtain⟨i0,hi,C⟩:=cQ.1 pN;have D:i0.zero=some (.int .u64 0):=congrArg (fun t=>t.1) C;have E:i0.size=1:=congrArg (fun t=>t.2.1) C;have F:i0.bytes=8:=congrArg (fun t=>t.2.2) C;clear C;go_enter Tryz.func168,Tryz.ntmps168;go_wp2_with (at_builtin;refine wpList_append_own _ rfl _ _ 25 rfl w.heap.size 90 i0 (.int .u64 0) 1 8 Tryz.underlying25 hi D E F rfl fk _ _ _ rfl (World.ownsRow_made w #[] 0 (aI _) (bU _) rfl) a 0 c [] rfl rfl (by intro j u R;simp at R) (by intro u hu;cases hu) (by unfold maxLen;omega) eX fX ?_);intro d X B A L;go_wp2;have J:G w X:=((Below.refl _ w).alloc (aI _) _).grown A fX (by intro k S;simp [Value.ownBlock] at S;omega);obtain⟨-,⟨rfl,Z⟩|⟨g,cap,N,rfl,Y,O,K,-⟩⟩:=B
 ·go_ret;exact⟨_,_,rfl,J⟩
 ·go_ret;exact⟨_,_,rfl,J⟩
theorem oh (w:World) (b o c:Nat) (l:List Nat) (D:l≠[]) (C:l.length≤1000000) (hb:b<w.heap.size) (E:okw l) (J:Row w b o l):
  Calls Tryz.prog 82 #[.slice (some ⟨b,o,none⟩) l.length c] w fun e F=>∃ A B,e= .returned (.slice (some ⟨A,0,none⟩) l.length B)∧l.length≤B∧w.heap.size≤A∧Own F A l∧G w F:=by
 have K:=hi9 (q4a w b o c l D C hb E J);go_enter Tryz.func82,Tryz.ntmps82;go_wp2_with fail;refine eW K.out ?_;rintro e L ⟨A,B,rfl,h1,h2,h3,I⟩;go_wp2_with fail;go_ret;exact⟨A,B,rfl,h1,h2,h3,I⟩
theorem ml (w:World) (p:Option Addr) (c:Nat):
  Calls Tryz.prog 82 #[.slice p 0 c] w fun e D=>∃ C B,e= .returned (.slice C 0 B)∧G w D:=by
 cases p with
 |none=>
  have K:=hi9 (q1d w c);go_enter Tryz.func82,Tryz.ntmps82;go_wp2_with fail;refine eW K.out ?_;rintro e E ⟨rfl,A⟩;go_wp2_with fail;go_ret;exact⟨_,_,rfl,A⟩
 |some a=>
  have K:=hi9 (s8 w a c);go_enter Tryz.func82,Tryz.ntmps82;go_wp2_with fail;refine eW K.out ?_;rintro e E ⟨C,B,rfl,A⟩;go_wp2_with fail;go_ret;exact⟨_,_,rfl,A⟩
theorem q2t (w:World) (va:Value) (a K:Nat) (S:K≤1000000) (J:Num w va a) (B:a<2^(64*K)):
  Calls Tryz.prog 82 #[va] w (fo w a):=by
 obtain⟨l,D,A,rfl⟩:=J;have M:=fg A B;rcases Sl.cases D with ⟨rfl,p,c,rfl⟩|⟨C,b,o,c,rfl,L,hb,N⟩
 ·refine(ml w p c).mono ?_;rintro e O ⟨U,E,rfl,I⟩;exact⟨_,rfl,I,[],⟨iv,Or.inl ⟨rfl,_,_,rfl⟩⟩,gT,rfl⟩
 ·refine(oh w b o c l C eX hb D.1 N).mono ?_;rintro e O ⟨R,E,rfl,h1,-,h3,F⟩;exact⟨_,rfl,F,l,h3.sl _ h1,A,rfl⟩
theorem rM (w:World) (p B:Option Addr) (c j A:Nat) (f:Nat):
  Calls Tryz.prog 234 #[.slice p 0 c,.slice B j A,.int .u64 (f:Int)] w fun e C=>∃ s,e= .returned (.bool s)∧G w C:=by
 go_enter Tryz.func234,Tryz.ntmps234;go_wp2;refine wp_loop_rounds 1 ?_;rw[rounds_succ];go_wp2;go_ret;exact⟨_,rfl,ad _⟩
theorem q03 (w:World) (va vb:Value) (l m:List Nat) (U:Sl w va l) (W:Sl w vb m) (A:m.length≤l.length) (J:l.length≤1000000) (hle:val m≤val l):
  Calls Tryz.prog 157 #[va,vb] w (fo w (val l-val m)):=by
 have HM:=hi9 W;rcases Sl.cases U with ⟨rfl,p,c,rfl⟩|⟨B,b,o,c,rfl,ag,hb,hr⟩
 ·obtain⟨pb,cb,rfl,-,-⟩:=fF W;have K:=hi9 (ml w p c);go_enter Tryz.func157,Tryz.ntmps157;have e0:val m=0:=by simpa [val] using hle
  have HE:=hi9 e0;clear e0 U W A J hle;go_wp2_with fail;refine eW K.out ?_;rintro e w1 ⟨p2,C,rfl,h1⟩;have M:=hi9 (rM w1 p2 pb C m.length cb 1);go_wp2_with fail;refine eW M.out ?_;rintro e d ⟨s,rfl,h2⟩;have Z:=hi9 (trim_c d (.slice p2 0 C) [] ⟨iv,Or.inl ⟨rfl,_,_,rfl⟩⟩ fX);go_wp2_with fail;refine eW Z.out ?_;rintro e w3 ⟨v1,rfl,h3,N⟩;go_wp2_with fail;go_ret;rw[HE.out];exact⟨v1,rfl,(h1.trans h2).trans h3,N⟩
 ·have K:=hi9 (oh w b o c l B J hb U.1 hr);have Y:=U.1;have HL:=hi9 Y;have j:=hi9 hle;have af:=hi9 A;have D:=hi9 J;have X:∀ L o2 n2 C,vb= .slice (some ⟨L,o2,none⟩) n2 C→m≠[]→L<w.heap.size:=by
   intro L o2 n2 C e B;rcases W.2 with ⟨h,-⟩|⟨b3,o3,c3,e3,-,h3,-⟩
   ·exact absurd h B
   ·rw[e] at e3;injection e3 with e4;injection e4 with e5;injection e5 with e6;omega
  have k:=hi9 X;clear X hr U W Y hle A;go_enter Tryz.func157,Tryz.ntmps157;go_wp2_with fail;refine eW K.out ?_;rintro e w1 ⟨L,C,rfl,h1,h2,h3,N⟩;have M:Hid _:=nM w1 L 0 C vb l m 1 eX h3.at h1 (Sl.G (show Sl w vb m from HM.out) N) (fun b3 o3 n3 c3 e B=>by have:=k.out b3 o3 n3 c3 e B;omega) af.out (by have:=D.out;omega);rw[show ((1:Nat):Int)=1 from rfl,aT] at M;clear h3 K;go_wp2_with fail;refine eW M.out ?_;rintro e d ⟨cs,q,rfl,I,F,O,S⟩;have E:val cs=val l-val m:=by
   have y:=fO F.ok;have h6:=j.out;have h8:=fO HL.out;rw[I] at y;have h7:q=0:=by
    apply Classical.byContradiction;intro hq;have:2^(64*l.length)*1≤2^(64*l.length)*q:=aB _ eX;omega
   rw[h7] at S;omega
  have R:G w d:=GB.fresh N O h2;have Z:Hid _:=trim_c d (.slice (some ⟨L,0,none⟩) l.length C) cs (by have:=F.sl C eX;rwa[I] at this) (by have:=D.out;omega);rw[E] at Z;have i:=hi9 R;clear E R S O F I M N;go_wp2_with fail;refine eW Z.out ?_;rintro e w3 ⟨v1,rfl,y,h6⟩;go_wp2_with fail;go_ret;exact⟨v1,rfl,ab i.out y,h6⟩
theorem mF (w:World) (va vb:Value) (a b K:Nat) (J:K≤1000000) (D:Num w va a) (hb:Num w vb b) (B:a<2^(64*K)) (hle:b≤a):
  Calls Tryz.prog 157 #[va,vb] w (fo w (a-b)):=by
 obtain⟨l,E,A,rfl⟩:=D;obtain⟨m,I,C,rfl⟩:=hb;have F:=fg A B;refine q03 w va vb l m E I ?_ eX hle;by_cases h:m.length≤l.length
 ·exact h
 ·have:=gq A C eX;omega
end Go.Proofs.YtohcneeihdkfgaaGreatDoor.EN
