/- What is proved here: contracts of package exact: clones, over this seat's translation.
What is proved here: contracts of package exact: copied, minus, over this seat's translation. -/
import Derived.Test.YtfnkkkcojnffdaaGreatDoorQ1
import Derived.Test.YtfnkkkcojnffdaaGreatDoorQ3
import Derived.Test.YtfnkkkcojnffdaaGreatDoorQ27
import Derived.Laws.OwnMore
import Derived.Test.YtfnkkkcojnffdaaGreatDoorQ18
namespace Go.Proofs.YtfnkkkcojnffdaaGreatDoor.EN
open Go.ChangeShapes Go.WideShapes Go.ChangeAt Go.RowKit
set_option maxRecDepth 100000 in
theorem q1l (w:World) (b o c:Nat) (l:List Nat) (D:l≠[]) (am:l.length≤1000000) (hb:b<w.heap.size) (L:okw l) (M:Row w b o l):
  Calls Tryz.prog 123 #[.slice (some ⟨b,o,none⟩) l.length c] w fun e Y=>∃ I U,e= .returned (.slice (some ⟨I,0,none⟩) l.length U)∧l.length≤U∧w.heap.size≤I∧Own Y I l∧G w Y:=by
 have an:∀ (w:World) (a:Option Addr) (n c S c':Nat),(binOp .eql 25 (.slice a n c) (.slice none S c')).run Tryz.prog w= .ok (.bool a.isNone) w:=fun w a n c S c'=>Lib.run_eql_slice_nil w _ _ a n c S c' Tryz.underlying25;obtain⟨i0,hi,F⟩:=bP.1 mM;have N:i0.zero=some (.int .u64 0):=congrArg (fun t=>t.1) F;have O:i0.size=1:=congrArg (fun t=>t.2.1) F;have R:i0.bytes=8:=congrArg (fun t=>t.2.2) F;have A:=js M;have m:=hi9 A;have Z:=hi9 (jw l);have K:(l.map fun d=>Value.int .u64 (d:Nat)).length=l.length*1:=by simp
 have HB:=hi9 hb;have s:=hi9 D;have HR:=hi9 M;have al:0<l.length:=bS.2 D;clear A hb D M F;go_enter Tryz.func123,Tryz.ntmps123;go_wp2_with (at_builtin;refine wpList_append_own _ rfl _ _ 25 rfl w.heap.size 78 i0 (.int .u64 0) 1 8 Tryz.underlying25 hi N O R rfl ff _ _ _ rfl (World.ownsRow_made w #[] 0 (az _) (bC _) rfl) ⟨b,o,none⟩ l.length c _ rfl K ?a1 Z.out (by unfold maxLen;omega) eK ?a6 ?_)
 case a1=>
  intro j u hj;exact Lib.cell?_alloc_some _ (m.out j u hj)
 case a6=>simp
 intro v' w1 B C X;go_wp2;have hG:G w w1:=((Below.refl _ w).alloc (az _) _).grown C fI (by intro k hk;simp [Value.ownBlock] at hk;omega);have W:=B;obtain⟨-,⟨rfl,hn⟩|⟨g,cap,y,rfl,hg,J,E,-⟩⟩:=B
 ·omega
 ·go_ret;refine⟨g,cap,rfl,E,hg,⟨L,(bg.1 J).1,fun i hi=> ?_,fun i hi=>W.frozenAt i⟩,hG⟩;rw[aD,W.cellAt i eK,de,aE hi,ad,aE hi];rfl
theorem qD (w:World) (c:Nat):
  Calls Tryz.prog 123 #[.slice none 0 c] w fun e C=>e= .returned (.slice none 0 0)∧G w C:=by
 have B:∀ (w:World) (a:Option Addr) (n c A c':Nat),(binOp .eql 25 (.slice a n c) (.slice none A c')).run Tryz.prog w= .ok (.bool a.isNone) w:=fun w a n c A c'=>Lib.run_eql_slice_nil w _ _ a n c A c' Tryz.underlying25;go_enter Tryz.func123,Tryz.ntmps123;go_wp2;go_ret;exact⟨rfl,ag _⟩
set_option maxRecDepth 100000 in
theorem oB (w:World) (a:Addr) (c:Nat):
  Calls Tryz.prog 123 #[.slice (some a) 0 c] w fun e W=>∃ p M,e= .returned (.slice p 0 M)∧G w W:=by
 have U:∀ (w:World) (a:Option Addr) (n c I c':Nat),(binOp .eql 25 (.slice a n c) (.slice none I c')).run Tryz.prog w= .ok (.bool a.isNone) w:=fun w a n c I c'=>Lib.run_eql_slice_nil w _ _ a n c I c' Tryz.underlying25;obtain⟨i0,hi,C⟩:=bP.1 mM;have D:i0.zero=some (.int .u64 0):=congrArg (fun t=>t.1) C;have E:i0.size=1:=congrArg (fun t=>t.2.1) C;have F:i0.bytes=8:=congrArg (fun t=>t.2.2) C;clear C;go_enter Tryz.func123,Tryz.ntmps123;go_wp2_with (at_builtin;refine wpList_append_own _ rfl _ _ 25 rfl w.heap.size 78 i0 (.int .u64 0) 1 8 Tryz.underlying25 hi D E F rfl ff _ _ _ rfl (World.ownsRow_made w #[] 0 (az _) (bC _) rfl) a 0 c [] rfl rfl (by intro j u R;simp at R) (by intro u hu;cases hu) (by unfold maxLen;omega) eK fI ?_);intro d X B A L;go_wp2;have J:G w X:=((Below.refl _ w).alloc (az _) _).grown A fI (by intro k S;simp [Value.ownBlock] at S;omega);obtain⟨-,⟨rfl,Z⟩|⟨g,cap,N,rfl,Y,O,K,-⟩⟩:=B
 ·go_ret;exact⟨_,_,rfl,J⟩
 ·go_ret;exact⟨_,_,rfl,J⟩
theorem mb (w:World) (b o c:Nat) (l:List Nat) (D:l≠[]) (C:l.length≤1000000) (hb:b<w.heap.size) (E:okw l) (J:Row w b o l):
  Calls Tryz.prog 64 #[.slice (some ⟨b,o,none⟩) l.length c] w fun e F=>∃ A B,e= .returned (.slice (some ⟨A,0,none⟩) l.length B)∧l.length≤B∧w.heap.size≤A∧Own F A l∧G w F:=by
 have K:=hi9 (q1l w b o c l D C hb E J);go_enter Tryz.func64,Tryz.ntmps64;go_wp2_with fail;refine eJ K.out ?_;rintro e L ⟨A,B,rfl,h1,h2,h3,I⟩;go_wp2_with fail;go_ret;exact⟨A,B,rfl,h1,h2,h3,I⟩
theorem kJ (w:World) (p:Option Addr) (c:Nat):
  Calls Tryz.prog 64 #[.slice p 0 c] w fun e D=>∃ C B,e= .returned (.slice C 0 B)∧G w D:=by
 cases p with
 |none=>
  have K:=hi9 (qD w c);go_enter Tryz.func64,Tryz.ntmps64;go_wp2_with fail;refine eJ K.out ?_;rintro e E ⟨rfl,A⟩;go_wp2_with fail;go_ret;exact⟨_,_,rfl,A⟩
 |some a=>
  have K:=hi9 (oB w a c);go_enter Tryz.func64,Tryz.ntmps64;go_wp2_with fail;refine eJ K.out ?_;rintro e E ⟨C,B,rfl,A⟩;go_wp2_with fail;go_ret;exact⟨_,_,rfl,A⟩
theorem lj (w:World) (va:Value) (a K:Nat) (S:K≤1000000) (J:Num w va a) (B:a<2^(64*K)):
  Calls Tryz.prog 64 #[va] w (eU w a):=by
 obtain⟨l,D,A,rfl⟩:=J;have M:=eQ A B;rcases Sl.cases D with ⟨rfl,p,c,rfl⟩|⟨C,b,o,c,rfl,L,hb,N⟩
 ·refine(kJ w p c).mono ?_;rintro e O ⟨U,E,rfl,I⟩;exact⟨_,rfl,I,[],⟨gG,Or.inl ⟨rfl,_,_,rfl⟩⟩,gh,rfl⟩
 ·refine(mb w b o c l C eK hb D.1 N).mono ?_;rintro e O ⟨R,E,rfl,h1,-,h3,F⟩;exact⟨_,rfl,F,l,h3.sl _ h1,A,rfl⟩
theorem o9 (w:World) (p B:Option Addr) (c j A:Nat) (f:Nat):
  Calls Tryz.prog 171 #[.slice p 0 c,.slice B j A,.int .u64 (f:Int)] w fun e C=>∃ s,e= .returned (.bool s)∧G w C:=by
 go_enter Tryz.func171,Tryz.ntmps171;go_wp2;refine wp_loop_rounds 1 ?_;rw[rounds_succ];go_wp2;go_ret;exact⟨_,rfl,ag _⟩
theorem oU (w:World) (va vb:Value) (l m:List Nat) (U:Sl w va l) (W:Sl w vb m) (A:m.length≤l.length) (J:l.length≤1000000) (hle:val m≤val l):
  Calls Tryz.prog 112 #[va,vb] w (eU w (val l-val m)):=by
 have HM:=hi9 W;rcases Sl.cases U with ⟨rfl,p,c,rfl⟩|⟨B,b,o,c,rfl,am,hb,hr⟩
 ·obtain⟨pb,cb,rfl,-,-⟩:=fa W;have K:=hi9 (kJ w p c);go_enter Tryz.func112,Tryz.ntmps112;have e0:val m=0:=by simpa [val] using hle
  have HE:=hi9 e0;clear e0 U W A J hle;go_wp2_with fail;refine eJ K.out ?_;rintro e w1 ⟨p2,C,rfl,h1⟩;have M:=hi9 (o9 w1 p2 pb C m.length cb 1);go_wp2_with fail;refine eJ M.out ?_;rintro e d ⟨s,rfl,h2⟩;have Z:=hi9 (trim_c d (.slice p2 0 C) [] ⟨gG,Or.inl ⟨rfl,_,_,rfl⟩⟩ fI);go_wp2_with fail;refine eJ Z.out ?_;rintro e w3 ⟨v1,rfl,h3,N⟩;go_wp2_with fail;go_ret;rw[HE.out];exact⟨v1,rfl,(h1.trans h2).trans h3,N⟩
 ·have K:=hi9 (mb w b o c l B J hb U.1 hr);have Y:=U.1;have HL:=hi9 Y;have j:=hi9 hle;have al:=hi9 A;have D:=hi9 J;have X:∀ L o2 n2 C,vb= .slice (some ⟨L,o2,none⟩) n2 C→m≠[]→L<w.heap.size:=by
   intro L o2 n2 C e B;rcases W.2 with ⟨h,-⟩|⟨b3,o3,c3,e3,-,h3,-⟩
   ·exact absurd h B
   ·rw[e] at e3;injection e3 with e4;injection e4 with e5;injection e5 with e6;omega
  have k:=hi9 X;clear X hr U W Y hle A;go_enter Tryz.func112,Tryz.ntmps112;go_wp2_with fail;refine eJ K.out ?_;rintro e w1 ⟨L,C,rfl,h1,h2,h3,N⟩;have M:Hid _:=lL w1 L 0 C vb l m 1 eK h3.at h1 (Sl.G (show Sl w vb m from HM.out) N) (fun b3 o3 n3 c3 e B=>by have:=k.out b3 o3 n3 c3 e B;omega) al.out (by have:=D.out;omega);rw[show ((1:Nat):Int)=1 from rfl,b9] at M;clear h3 K;go_wp2_with fail;refine eJ M.out ?_;rintro e d ⟨cs,q,rfl,I,F,O,S⟩;have E:val cs=val l-val m:=by
   have y:=fm F.ok;have h6:=j.out;have h8:=fm HL.out;rw[I] at y;have h7:q=0:=by
    apply Classical.byContradiction;intro hq;have:2^(64*l.length)*1≤2^(64*l.length)*q:=aA _ eK;omega
   rw[h7] at S;omega
  have R:G w d:=GB.fresh N O h2;have Z:Hid _:=trim_c d (.slice (some ⟨L,0,none⟩) l.length C) cs (by have:=F.sl C eK;rwa[I] at this) (by have:=D.out;omega);rw[E] at Z;have i:=hi9 R;clear E R S O F I M N;go_wp2_with fail;refine eJ Z.out ?_;rintro e w3 ⟨v1,rfl,y,h6⟩;go_wp2_with fail;go_ret;exact⟨v1,rfl,aa i.out y,h6⟩
theorem kU (w:World) (va vb:Value) (a b K:Nat) (J:K≤1000000) (D:Num w va a) (hb:Num w vb b) (B:a<2^(64*K)) (hle:b≤a):
  Calls Tryz.prog 112 #[va,vb] w (eU w (a-b)):=by
 obtain⟨l,E,A,rfl⟩:=D;obtain⟨m,I,C,rfl⟩:=hb;have F:=eQ A B;refine oU w va vb l m E I ?_ eK hle;by_cases h:m.length≤l.length
 ·exact h
 ·have:=fH A C eK;omega
end Go.Proofs.YtfnkkkcojnffdaaGreatDoor.EN
