/- What is proved here: contracts of the small functions of package bits (formats), over this seat's translation.
What is proved here: what stands when a world has grown, under short names.
What is proved here: contracts of functions of package math (tests, signs), over this seat's translation. -/
import Derived.Test.YtohcneeihdkfgaaGreatDoorQ1
import Derived.Test.YtohcneeihdkfgaaGreatDoorRows
import Derived.Test.YtohcneeihdkfgaaGreatDoorQ2
import Derived.WalkKit
import Derived.ProofKit
import Derived.OpenShut
import Derived.WalkLawsBesides
import Derived.Handy
import Derived.Deep.QuietTactic
import Derived.BigQuiet
import Derived.Deep.RegionWith
namespace Go.Proofs.YtohcneeihdkfgaaGreatDoor
open Go.ChangeShapes Go.WideShapes Go.ChangeAt Go.RowKit
/-- Nothing that was there has turned; the rest is new. -/
def G (w A:World):Prop:=Below w.heap.size w A
theorem G.refl (w:World):G w w:=Below.refl _ _
theorem ad:type_of% @G.refl:= @G.refl
theorem G.trans {a b c:World} (h:G a b) (k:G b c):G a c:=Below.trans h (Below.mono k (Below.size h))
theorem ab:type_of% @G.trans:= @G.trans
theorem G.alloc {a b:World} (h:G a b) (o:Obj):G a (b.alloc o):=Below.alloc h (Below.size h) o
theorem et:type_of% @G.alloc:= @G.alloc
theorem G.drew {a b:World} (h:G a b):G a b.drew:=Below.drew h
theorem G.drewN {a b:World} (h:G a b) (n:Nat):G a (b.drewN n):=below_drewN h n
theorem G.setCell {a b:World} (h:G a b) {p:Addr} (A:a.heap.size≤p.block) (u:Value):G a (b.setCell p u):=Below.setCell h A u
theorem G.size {a b:World} (h:G a b):a.heap.size≤b.heap.size:=Below.size h
theorem G.cell {a b:World} (h:G a b) {p:Addr} {v:Value} (A:p.block<a.heap.size) (hv:a.cell? p=some v):b.cell? p=some v:=(Below.cell h A).trans hv
theorem G.frozen {a b:World} (h:G a b) {p:Addr} {v:Bool} (A:p.block<a.heap.size) (hv:a.frozen? p=v):b.frozen? p=v:=(Below.frozen h A).trans hv
/-- w with blocks behind its heap, whatever has been drawn ('p' brings both). -/
def gw (w:World) (p:World):World:={w with heap:=w.heap++p.heap,drawn:=p.drawn}
theorem gw_G (w:World) (p:World):G w (gw w p):=
 ⟨rfl,rfl,rfl,by simp [gw],fun k A=>by simp [gw,Array.getElem?_append,A]⟩
theorem G.ex {w A:World} (h:G w A):∃ p,A=gw w p:=by
 obtain⟨h1,h2,h3,F,C⟩:=h;refine⟨{A with heap:=A.heap.extract w.heap.size},?_⟩;have D:A.heap=w.heap++A.heap.extract w.heap.size:=by
  apply Array.ext_getElem?;intro k;by_cases B:k<w.heap.size
  ·rw[C k B,Array.getElem?_append_left B]
  ·rw[Array.getElem?_append_right eX,Array.getElem?_extract];by_cases E:k<A.heap.size
   ·rw[if_pos eX]
    congr 1
    omega
   ·rw[if_neg eX,Array.getElem?_eq_none eX]
 cases w;cases A;simp only[gw] at *;subst h1 h2 h3;rw[← D]
theorem pM {w:World} {a:Addr} {x:Value} (hb:a.block<w.heap.size) (h:w.cell? a=some x) (p:World):(gw w p).cell? a=some x:=(gw_G w p).cell hb h
theorem iC {P:Program} {f:FuncId} {args:Array Value} {w:World} {p:World} {x:Value}
  (h:Calls P f args (gw w p) fun e D=>e= .returned x∧G (gw w p) D):Calls P f args (gw w p) fun e A=>e= .returned x∧∃ q,A=gw w q:=
 h.mono fun _ _ ⟨C,B⟩=>⟨C,(ab (gw_G w p) B).ex⟩
theorem fq {P:Program} {id:Nat} {Q:Exit→Act→World→Prop} {a:Act} {w:World} {l:List Oper} (F:P.follows .mixedOrders=true) (E:Region.lexB .any l.toArray=true)
  (h:∀ W,W=w→wpQuiet P l.toArray (fun A=>∃ p:World,A=gw W p) (fun B=>∀ A,G w A→Q .normal B A) l a):(Code.region id l.toArray true).wp P Q a w:=by
 refine wp_region_quiet (C:=fun A=>∃ p:World,A=gw w p) F E ((ad w).drew.ex) ?_;have h2:=h w rfl;have e:(fun B=>∀ A,G w A→Q .normal B A)=(fun B=>∀ A,(∃ p:World,A=gw w p)→Q .normal B A):=by
  funext B
  apply propext;constructor
  ·intro D A ⟨p,I⟩;rw[I];exact D _ (gw_G w p)
  ·intro D A J;exact D A J.ex
 rw[e] at h2;simpa using h2
theorem fE (n:Int) (w:World):(callFunc 145 #[Value.int IntKind.u64 n]).run Tryz.prog w= .ok (.value (.float .f64 n.toNat)) w:=by kernel_rfl
theorem fN (n:Nat) (w:World):(callFunc 146 #[Value.float .f64 n]).run Tryz.prog w= .ok (.value (.int .u64 n)) w:=by kernel_rfl
theorem fU {k:IntKind} {a b:Int} (h:a=b):Ending.returned (.int k a)= .returned (.int k b):=by rw[h]
theorem gD {a b:Nat} (h:a≤b):(2:Nat)^a≤2^b:=ao eX h
theorem iT {E n:Nat} (h:E≤n):(1:Int)≤2^E∧(2:Int)^E≤2^n:=by
 have h1:=gD h;have h2:=ae E;constructor
 ·have:((1:Nat):Int)≤((2^E:Nat):Int):=by omega
  simpa using this
 ·have:((2^E:Nat):Int)≤((2^n:Nat):Int):=by omega
  simpa using this
theorem jZ (E F:Nat) (w:World) (h1:E≤11):
  Calls Tryz.prog 181 #[.agg #[.int .i64 E,.int .i64 F]] w fun e A=>e= .returned (.int .i64 (2^E-1))∧G w A:=by
 have B:=iT h1;go_enter Tryz.func181,Tryz.ntmps181;go_wp2;go_ret;refine⟨fU ?_,(ad _).alloc _⟩
 go_arith
theorem sF (E F:Nat) (w:World) (B:1≤E) (h1:E≤11):
  Calls Tryz.prog 248 #[.agg #[.int .i64 E,.int .i64 F]] w fun e A=>e= .returned (.int .i64 (2^(E-1)-1))∧G w A:=by
 have C:=iT (show E-1≤11 by omega);go_enter Tryz.func248,Tryz.ntmps248;go_wp2;go_ret;refine⟨fU ?_,(ad _).alloc _⟩
 go_arith
theorem oF (E F:Nat) (w:World) (h1:F≤63):
  Calls Tryz.prog 247 #[.agg #[.int .i64 E,.int .i64 F]] w fun e A=>e= .returned (.int .u64 (2^F))∧G w A:=by
 have B:=iT h1;go_enter Tryz.func247,Tryz.ntmps247;go_wp2;go_ret;refine⟨fU ?_,(ad _).alloc _⟩
 go_arith
theorem q3L (E F:Nat) (w:World) (h1:E+F≤63):
  Calls Tryz.prog 277 #[.agg #[.int .i64 E,.int .i64 F]] w fun e A=>e= .returned (.int .u64 (2^(E+F)))∧G w A:=by
 have B:=iT h1;go_enter Tryz.func277,Tryz.ntmps277;go_wp2;go_ret;refine⟨fU ?_,(ad _).alloc _⟩
 go_arith
theorem jm (w:World):
  Calls Tryz.prog 182 #[] w fun e A=>e= .returned (.agg #[.int .i64 11,.int .i64 52])∧G w A:=by
 go_enter Tryz.func182,Tryz.ntmps182;go_wp2
 go_returns
 exact⟨rfl,(ad _).alloc _⟩
theorem sD (E F:Nat) (w:World) (h1:E≤11) (h2:F≤52):
  Calls Tryz.prog 292 #[.agg #[.int .i64 E,.int .i64 F]] w fun e C=>e= .returned (.int .u64 ((2^E-1)*2^F))∧G w C:=by
 have D:=iT h1;have I:=iT h2;have J:(0:Int)≤(2^E-1)*2^F:=dM eX eX;have K:((2:Int)^E-1)*2^F≤2047*2^52:=Int.mul_le_mul eX eX eX eX;go_enter Tryz.func292,Tryz.ntmps292;go_wp2_with fail
 go_region_with (go_at_call 181;refine(jZ E F _ h1).mono ?_;rintro e L ⟨rfl,A⟩;have B:=A.cell (p:=⟨w.heap.size,1,none⟩) (v:= .int .i64 F) fX (by simp [go_sem]))
 all_goals
  go_wp2;go_ret;exact⟨fU (by simp (disch:=omega) only[IntWalk.u64_in]),ab ((ad _).alloc _).drew A⟩
theorem gv {w A:World} (h:G w A:=by repeat' (first|exact ad _|assumption|refine et ?_ _|refine G.drew ?_ |refine G.drewN ?_ _|(refine ab ?_ (by assumption)))):G w A:=h
theorem l5 {a b:World} (p:Addr) (v:Value) (h:G a b) (A:p.block<a.heap.size:=by first|assumption|(simp;done)|(simp;omega)|omega) (hv:a.cell? p=some v:=by assumption):b.cell? p=some v:=h.cell A hv
theorem hi9 {P:Prop} (h:P):Hid P:=h
theorem gj {P:Prop} (h:P:=by first|(go_simp;done)|(go_simp;with_reducible rfl)):P:=h
theorem mA {P:Prop} (h:P:=by intro B A;first|(go_simp;done)|(go_simp;with_reducible rfl)):P:=h
theorem iP {w:World} (a:Addr) (x:Value) (hb:a.block<w.heap.size:=by rw[hW];first|assumption|(simp;done)|(simp;omega)|omega) (h:w.cell? a=some x:=by rw[hW];first|assumption|(simp [go_sem];done)|(simp [*,go_sem];done)) (p:World):(gw w p).cell? a=some x:=pM hb h p
attribute [local go_sem] fE fN
theorem iF {a b:Nat} (h:a=b):Ending.returned (.float .f64 a)= .returned (.float .f64 b):=by rw[h]
theorem iJ (b:Nat) (w:World):
  Calls Tryz.prog 100 #[.float .f64 b] w fun e A=>e= .returned (.bool (FT.nan b))∧G w A:=by
 have h:=FT.neq_self b;go_enter Tryz.func100,Tryz.ntmps100;go_wp2;go_ret;exact⟨rfl,ad _⟩
theorem q5r (b:Nat) (w:World) (h:b<2^64):
  Calls Tryz.prog 185 #[.float .f64 b] w fun e A=>e= .returned (.float .f64 (FT.rung b))∧G w A:=by
 have h:=FT.andnot_sign b h;go_enter Tryz.func185,Tryz.ntmps185;go_wp2;go_ret;exact⟨rfl,ad _⟩
theorem jg (b:Nat) (w:World) (h:b<2^64):
  Calls Tryz.prog 101 #[.float .f64 b,.int .i64 0] w fun e B=>e= .returned (.bool (decide (FT.rung b=FT.infR)))∧G w B:=by
 have K:Hid _:=fun w=>q5r b w h;have h:=FT.gt_max b;go_enter Tryz.func101,Tryz.ntmps101;go_wp2_with (first|(go_at_call 185;refine(K.out _).mono ?_;rintro e C ⟨rfl,A⟩));go_ret;exact⟨rfl,gv⟩
theorem kZ (a b:Nat) (w:World) (B:a<2^64) (hb:b<2^64):
  Calls Tryz.prog 144 #[.float .f64 a,.float .f64 b] w fun e D=>e= .returned (.float .f64 (FT.rung a+if FT.neg b then 2^63 else 0))∧G w D:=by
 have h1:=FT.andnot_sign a B;have h2:=FT.and_sign b hb;have C:=FT.rung_lt a;have h3:bits BinOp.or IntKind.u64 ((FT.rung a:Nat):Int) ((if FT.neg b then 2^63 else 0:Nat):Int)=((FT.rung a+if FT.neg b then 2^63 else 0:Nat):Int):=by
  by_cases A:FT.neg b=true
  ·rw[if_pos A];exact FT.or_sign _ C
  ·rw[if_neg A,u64_or_nat _ _ eX eX];simp
 generalize (if FT.neg b then 2^63 else 0:Nat)=s at *;generalize FT.rung a=r at *;go_enter Tryz.func144,Tryz.ntmps144;go_wp2;go_ret;exact⟨rfl,ad _⟩
theorem q0H (s:Int) (w:World) (h:0≤s):
  Calls Tryz.prog 211 #[.int .i64 s] w fun e A=>e= .returned (.float .f64 FT.infR)∧G w A:=by
 go_enter Tryz.func211,Tryz.ntmps211;go_wp2;go_ret;exact⟨iF rfl,ad _⟩
theorem q1p (s:Int) (w:World) (h:s<0):
  Calls Tryz.prog 211 #[.int .i64 s] w fun e A=>e= .returned (.float .f64 (FT.infR+2^63))∧G w A:=by
 go_enter Tryz.func211,Tryz.ntmps211;go_wp2;go_ret;exact⟨iF rfl,ad _⟩
theorem q2E (b:Nat) (w:World) (h:b<2^64):
  Calls Tryz.prog 37 #[.float .f64 b] w fun e I=>e= .returned (.bool (decide (FT.rung b<FT.infR)))∧G w I:=by
 have C:Hid _:=fun w=>iJ b w;have D:Hid _:=fun w=>jg b w h;by_cases E:FT.nan b=true
 ·rw[E] at C;have:¬ FT.rung b<FT.infR:=by unfold FT.nan at E;simp at E;omega
  rw[decide_eq_false this];go_enter Tryz.func37,Tryz.ntmps37;go_wp2_with (first|(go_at_call 100;refine(C.out _).mono ?_;rintro e F ⟨rfl,A⟩));go_ret;exact⟨rfl,gv⟩
 ·have B:FT.nan b=false:=by simpa using E
  rw[B] at C;have hle:FT.rung b≤FT.infR:=by unfold FT.nan at B;simp at B;omega
  by_cases hi:FT.rung b=FT.infR
  ·rw[decide_eq_true hi] at D;rw[decide_eq_false eX];clear hle hi;go_enter Tryz.func37,Tryz.ntmps37;go_wp2_with (first|(go_at_call 100;refine(C.out _).mono ?_;rintro e F ⟨rfl,A⟩)|(go_at_call 101;refine(D.out _).mono ?_;rintro e F ⟨rfl,A⟩));go_ret;exact⟨rfl,gv⟩
  ·rw[decide_eq_false hi] at D;rw[decide_eq_true eX];clear hle hi;go_enter Tryz.func37,Tryz.ntmps37;go_wp2_with (first|(go_at_call 100;refine(C.out _).mono ?_;rintro e F ⟨rfl,A⟩)|(go_at_call 101;refine(D.out _).mono ?_;rintro e F ⟨rfl,A⟩));go_ret;exact⟨rfl,gv⟩
/-- The same bits, or both no number. -/
def same (a b:Nat):Bool:=a==b||(FT.nan a&&FT.nan b)
end Go.Proofs.YtohcneeihdkfgaaGreatDoor
