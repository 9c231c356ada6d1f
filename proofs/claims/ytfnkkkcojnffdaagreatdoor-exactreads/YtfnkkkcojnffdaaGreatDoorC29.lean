/- What is proved here: contracts of package exact: clones, over this seat's translation.
What is proved here: contracts of package exact: copied, minus, over this seat's translation. -/
import Derived.Test.YtfnkkkcojnffdaaGreatDoorC1
import Derived.Test.YtfnkkkcojnffdaaGreatDoorC3
import Derived.Test.YtfnkkkcojnffdaaGreatDoorC28
import Derived.Laws.OwnMore
import Derived.Test.YtfnkkkcojnffdaaGreatDoorC22
namespace Go.Proofs.YtfnkkkcojnffdaaGreatDoor.EN
open Go.ChangeShapes Go.WideShapes Go.ChangeAt Go.RowKit
set_option maxRecDepth 100000 in
theorem q0c (w:World) (b o c:Nat) (l:List Nat) (D:l≠[]) (am:l.length≤1000000) (hb:b<w.heap.size) (L:okw l) (M:Row w b o l):
  Calls Tryz.prog 123 #[.slice (some ⟨b,o,none⟩) l.length c] w fun e Y=>∃ I U,e= .returned (.slice (some ⟨I,0,none⟩) l.length U)∧l.length≤U∧w.heap.size≤I∧Own Y I l∧G w Y:=by
 have an:∀ (w:World) (a:Option Addr) (n c S c':Nat),(binOp .eql 25 (.slice a n c) (.slice none S c')).run Tryz.prog w= .ok (.bool a.isNone) w:=fun w a n c S c'=>Lib.run_eql_slice_nil w _ _ a n c S c' Tryz.underlying25;obtain⟨i0,hi,F⟩:=bI.1 kx;have N:i0.zero=some (.int .u64 0):=congrArg (fun t=>t.1) F;have O:i0.size=1:=congrArg (fun t=>t.2.1) F;have R:i0.bytes=8:=congrArg (fun t=>t.2.2) F;have A:=gL M;have m:=hi9 A;have Z:=hi9 (gM l);have K:(l.map fun d=>Value.int .u64 (d:Nat)).length=l.length*1:=by simp
 have HB:=hi9 hb;have s:=hi9 D;have HR:=hi9 M;have al:0<l.length:=bD.2 D;clear A hb D M F;go_enter Tryz.func123,Tryz.ntmps123;go_wp2_with (at_builtin;refine wpList_append_own _ rfl _ _ 25 rfl w.heap.size 78 i0 (.int .u64 0) 1 8 Tryz.underlying25 hi N O R rfl ey _ _ _ rfl (World.ownsRow_made w #[] 0 (ay _) (bo _) rfl) ⟨b,o,none⟩ l.length c _ rfl K ?a1 Z.out (by unfold maxLen;omega) dT ?a6 ?_)
 case a1=>
  intro j u hj;exact Lib.cell?_alloc_some _ (m.out j u hj)
 case a6=>simp
 intro v' w1 B C X;go_wp2;have hG:G w w1:=((Below.refl _ w).alloc (ay _) _).grown C eO (by intro k hk;simp [Value.ownBlock] at hk;omega);have W:=B;obtain⟨-,⟨rfl,hn⟩|⟨g,cap,y,rfl,hg,J,E,-⟩⟩:=B
 ·omega
 ·go_ret;refine⟨g,cap,rfl,E,hg,⟨L,(aT.1 J).1,fun i hi=> ?_,fun i hi=>W.frozenAt i⟩,hG⟩;rw[az,W.cellAt i dT,db,aB hi,ab,aB hi];rfl
theorem og (w:World) (c:Nat):
  Calls Tryz.prog 123 #[.slice none 0 c] w fun e C=>e= .returned (.slice none 0 0)∧G w C:=by
 have B:∀ (w:World) (a:Option Addr) (n c A c':Nat),(binOp .eql 25 (.slice a n c) (.slice none A c')).run Tryz.prog w= .ok (.bool a.isNone) w:=fun w a n c A c'=>Lib.run_eql_slice_nil w _ _ a n c A c' Tryz.underlying25;go_enter Tryz.func123,Tryz.ntmps123;go_wp2;go_ret;exact⟨rfl,af _⟩
set_option maxRecDepth 100000 in
theorem mh (w:World) (a:Addr) (c:Nat):
  Calls Tryz.prog 123 #[.slice (some a) 0 c] w fun e W=>∃ p M,e= .returned (.slice p 0 M)∧G w W:=by
 have U:∀ (w:World) (a:Option Addr) (n c I c':Nat),(binOp .eql 25 (.slice a n c) (.slice none I c')).run Tryz.prog w= .ok (.bool a.isNone) w:=fun w a n c I c'=>Lib.run_eql_slice_nil w _ _ a n c I c' Tryz.underlying25;obtain⟨i0,hi,C⟩:=bI.1 kx;have D:i0.zero=some (.int .u64 0):=congrArg (fun t=>t.1) C;have E:i0.size=1:=congrArg (fun t=>t.2.1) C;have F:i0.bytes=8:=congrArg (fun t=>t.2.2) C;clear C;go_enter Tryz.func123,Tryz.ntmps123;go_wp2_with (at_builtin;refine wpList_append_own _ rfl _ _ 25 rfl w.heap.size 78 i0 (.int .u64 0) 1 8 Tryz.underlying25 hi D E F rfl ey _ _ _ rfl (World.ownsRow_made w #[] 0 (ay _) (bo _) rfl) a 0 c [] rfl rfl (by intro j u R;simp at R) (by intro u hu;cases hu) (by unfold maxLen;omega) dT eO ?_);intro d X B A L;go_wp2;have J:G w X:=((Below.refl _ w).alloc (ay _) _).grown A eO (by intro k S;simp [Value.ownBlock] at S;omega);obtain⟨-,⟨rfl,Z⟩|⟨g,cap,N,rfl,Y,O,K,-⟩⟩:=B
 ·go_ret;exact⟨_,_,rfl,J⟩
 ·go_ret;exact⟨_,_,rfl,J⟩
theorem jW (w:World) (b o c:Nat) (l:List Nat) (D:l≠[]) (C:l.length≤1000000) (hb:b<w.heap.size) (E:okw l) (J:Row w b o l):
  Calls Tryz.prog 64 #[.slice (some ⟨b,o,none⟩) l.length c] w fun e F=>∃ A B,e= .returned (.slice (some ⟨A,0,none⟩) l.length B)∧l.length≤B∧w.heap.size≤A∧Own F A l∧G w F:=by
 have K:=hi9 (q0c w b o c l D C hb E J);go_enter Tryz.func64,Tryz.ntmps64;go_wp2_with fail;refine dS K.out ?_;rintro e L ⟨A,B,rfl,h1,h2,h3,I⟩;go_wp2_with fail;go_ret;exact⟨A,B,rfl,h1,h2,h3,I⟩
theorem iW (w:World) (p:Option Addr) (c:Nat):
  Calls Tryz.prog 64 #[.slice p 0 c] w fun e D=>∃ C B,e= .returned (.slice C 0 B)∧G w D:=by
 cases p with
 |none=>
  have K:=hi9 (og w c);go_enter Tryz.func64,Tryz.ntmps64;go_wp2_with fail;refine dS K.out ?_;rintro e E ⟨rfl,A⟩;go_wp2_with fail;go_ret;exact⟨_,_,rfl,A⟩
 |some a=>
  have K:=hi9 (mh w a c);go_enter Tryz.func64,Tryz.ntmps64;go_wp2_with fail;refine dS K.out ?_;rintro e E ⟨C,B,rfl,A⟩;go_wp2_with fail;go_ret;exact⟨_,_,rfl,A⟩
theorem pA (w:World) (va:Value) (a K:Nat) (S:K≤1000000) (J:Num w va a) (B:a<2^(64*K)):
  Calls Tryz.prog 64 #[va] w (ef w a):=by
 obtain⟨l,D,A,rfl⟩:=J;have M:=dX A B;rcases Sl.cases D with ⟨rfl,p,c,rfl⟩|⟨C,b,o,c,rfl,L,hb,N⟩
 ·refine(iW w p c).mono ?_;rintro e O ⟨U,E,rfl,I⟩;exact⟨_,rfl,I,[],⟨fb,Or.inl ⟨rfl,_,_,rfl⟩⟩,eQ,rfl⟩
 ·refine(jW w b o c l C dT hb D.1 N).mono ?_;rintro e O ⟨R,E,rfl,h1,-,h3,F⟩;exact⟨_,rfl,F,l,h3.sl _ h1,A,rfl⟩
theorem lU (w:World) (p B:Option Addr) (c j A:Nat) (f:Nat):
  Calls Tryz.prog 171 #[.slice p 0 c,.slice B j A,.int .u64 (f:Int)] w fun e C=>∃ s,e= .returned (.bool s)∧G w C:=by
 go_enter Tryz.func171,Tryz.ntmps171;go_wp2;refine wp_loop_rounds 1 ?_;rw[rounds_succ];go_wp2;go_ret;exact⟨_,rfl,af _⟩
theorem mE (w:World) (va Z:Value) (l m:List Nat) (U:Sl w va l) (W:Sl w Z m) (A:m.length≤l.length) (J:l.length≤1000000) (hle:val m≤val l):
  Calls Tryz.prog 112 #[va,Z] w (ef w (val l-val m)):=by
 have HM:=hi9 W;rcases Sl.cases U with ⟨rfl,p,c,rfl⟩|⟨B,b,o,c,rfl,am,hb,hr⟩
 ·obtain⟨pb,cb,rfl,-,-⟩:=ei W;have K:=hi9 (iW w p c);go_enter Tryz.func112,Tryz.ntmps112;have e0:val m=0:=by simpa [val] using hle
  have HE:=hi9 e0;clear e0 U W A J hle;go_wp2_with fail;refine dS K.out ?_;rintro e w1 ⟨p2,C,rfl,h1⟩;have M:=hi9 (lU w1 p2 pb C m.length cb 1);go_wp2_with fail;refine dS M.out ?_;rintro e i ⟨s,rfl,h2⟩;have d:=hi9 (trim_c i (.slice p2 0 C) [] ⟨fb,Or.inl ⟨rfl,_,_,rfl⟩⟩ eO);go_wp2_with fail;refine dS d.out ?_;rintro e w3 ⟨v1,rfl,h3,N⟩;go_wp2_with fail;go_ret;rw[HE.out];exact⟨v1,rfl,(h1.trans h2).trans h3,N⟩
 ·have K:=hi9 (jW w b o c l B J hb U.1 hr);have Y:=U.1;have HL:=hi9 Y;have k:=hi9 hle;have al:=hi9 A;have D:=hi9 J;have X:∀ L o2 n2 C,Z= .slice (some ⟨L,o2,none⟩) n2 C→m≠[]→L<w.heap.size:=by
   intro L o2 n2 C e B;rcases W.2 with ⟨h,-⟩|⟨b3,o3,c3,e3,-,h3,-⟩
   ·exact absurd h B
   ·rw[e] at e3;injection e3 with e4;injection e4 with e5;injection e5 with e6;omega
  have y:=hi9 X;clear X hr U W Y hle A;go_enter Tryz.func112,Tryz.ntmps112;go_wp2_with fail;refine dS K.out ?_;rintro e w1 ⟨L,C,rfl,h1,h2,h3,N⟩;have M:Hid _:=jG w1 L 0 C Z l m 1 dT h3.at h1 (Sl.G (show Sl w Z m from HM.out) N) (fun b3 o3 n3 c3 e B=>by have:=y.out b3 o3 n3 c3 e B;omega) al.out (by have:=D.out;omega);rw[show ((1:Nat):Int)=1 from rfl,aW] at M;clear h3 K;go_wp2_with fail;refine dS M.out ?_;rintro e i ⟨cs,q,rfl,I,F,O,S⟩;have E:val cs=val l-val m:=by
   have h5:=eo F.ok;have h6:=k.out;have h8:=eo HL.out;rw[I] at h5;have h7:q=0:=by
    apply Classical.byContradiction;intro hq;have:2^(64*l.length)*1≤2^(64*l.length)*q:=au _ dT;omega
   rw[h7] at S;omega
  have R:G w i:=GB.fresh N O h2;have d:Hid _:=trim_c i (.slice (some ⟨L,0,none⟩) l.length C) cs (by have:=F.sl C dT;rwa[I] at this) (by have:=D.out;omega);rw[E] at d;have j:=hi9 R;clear E R S O F I M N;go_wp2_with fail;refine dS d.out ?_;rintro e w3 ⟨v1,rfl,h5,h6⟩;go_wp2_with fail;go_ret;exact⟨v1,rfl,aa j.out h5,h6⟩
theorem nG (w:World) (va D:Value) (a b K:Nat) (L:K≤1000000) (E:Num w va a) (hb:Num w D b) (B:a<2^(64*K)) (hle:b≤a):
  Calls Tryz.prog 112 #[va,D] w (ef w (a-b)):=by
 obtain⟨l,F,A,rfl⟩:=E;obtain⟨m,J,C,rfl⟩:=hb;have I:=dX A B;refine mE w va D l m F J ?_ dT hle;by_cases h:m.length≤l.length
 ·exact h
 ·have:=eE A C dT;omega
end Go.Proofs.YtfnkkkcojnffdaaGreatDoor.EN
