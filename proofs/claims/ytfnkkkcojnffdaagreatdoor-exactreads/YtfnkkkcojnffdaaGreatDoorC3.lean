/- What is proved here: contracts of the small functions of package bits (formats), over this seat's translation.
What is proved here: contracts of functions of package math (tests, signs), over this seat's translation.
What is proved here: what stands when a world has grown, under short names. -/
import Derived.Test.YtfnkkkcojnffdaaGreatDoorC1
import Derived.Test.YtfnkkkcojnffdaaGreatDoorRows
import Derived.Test.YtfnkkkcojnffdaaGreatDoorC2
import Derived.WalkKit
import Derived.ProofKit
import Derived.OpenShut
import Derived.WalkLawsBesides
import Derived.Handy
import Derived.Deep.QuietTactic
import Derived.BigQuiet
import Derived.Deep.RegionWith
namespace Go.Proofs.YtfnkkkcojnffdaaGreatDoor
open Go.ChangeShapes Go.WideShapes Go.ChangeAt Go.RowKit
/-- Nothing that was there has turned; the rest is new. -/
def G (w A:World):Prop:=Below w.heap.size w A
theorem G.refl (w:World):G w w:=Below.refl _ _
theorem af:type_of% @G.refl:= @G.refl
theorem G.trans {a b c:World} (h:G a b) (k:G b c):G a c:=Below.trans h (Below.mono k (Below.size h))
theorem aa:type_of% @G.trans:= @G.trans
theorem G.alloc {a b:World} (h:G a b) (o:Obj):G a (b.alloc o):=Below.alloc h (Below.size h) o
theorem G.drew {a b:World} (h:G a b):G a b.drew:=Below.drew h
theorem G.drewN {a b:World} (h:G a b) (n:Nat):G a (b.drewN n):=below_drewN h n
theorem G.setCell {a b:World} (h:G a b) {p:Addr} (A:a.heap.size≤p.block) (u:Value):G a (b.setCell p u):=Below.setCell h A u
theorem G.size {a b:World} (h:G a b):a.heap.size≤b.heap.size:=Below.size h
theorem G.cell {a b:World} (h:G a b) {p:Addr} {v:Value} (A:p.block<a.heap.size) (hv:a.cell? p=some v):b.cell? p=some v:=(Below.cell h A).trans hv
theorem G.frozen {a b:World} (h:G a b) {p:Addr} {v:Bool} (A:p.block<a.heap.size) (hv:a.frozen? p=v):b.frozen? p=v:=(Below.frozen h A).trans hv
/-- w with blocks behind its heap, whatever has been drawn ('p' brings both). -/
def gw (w:World) (p:World):World:={w with heap:=w.heap++p.heap,drawn:=p.drawn}
theorem gw_G (w:World) (p:World):G w (gw w p):=
 ⟨rfl,rfl,rfl,by simp [gw],fun k A=>by simp [gw,Array.getElem?_append,A]⟩
theorem G.ex {w A:World} (h:G w A):∃ p,A=gw w p:=by
 obtain⟨h1,h2,h3,F,C⟩:=h;refine⟨{A with heap:=A.heap.extract w.heap.size},?_⟩;have D:A.heap=w.heap++A.heap.extract w.heap.size:=by
  apply Array.ext_getElem?;intro k;by_cases B:k<w.heap.size
  ·rw[C k B,Array.getElem?_append_left B]
  ·rw[Array.getElem?_append_right dT,Array.getElem?_extract];by_cases E:k<A.heap.size
   ·rw[if_pos dT]
    congr 1
    omega
   ·rw[if_neg dT,Array.getElem?_eq_none dT]
 cases w;cases A;simp only[gw] at *;subst h1 h2 h3;rw[← D]
theorem q0u {w:World} {a:Addr} {x:Value} (hb:a.block<w.heap.size) (h:w.cell? a=some x) (p:World):(gw w p).cell? a=some x:=(gw_G w p).cell hb h
theorem gF {P:Program} {f:FuncId} {args:Array Value} {w:World} {p:World} {x:Value}
  (h:Calls P f args (gw w p) fun e D=>e= .returned x∧G (gw w p) D):Calls P f args (gw w p) fun e A=>e= .returned x∧∃ q,A=gw w q:=
 h.mono fun _ _ ⟨C,B⟩=>⟨C,(aa (gw_G w p) B).ex⟩
theorem ee {P:Program} {id:Nat} {Q:Exit→Act→World→Prop} {a:Act} {w:World} {l:List Oper} (F:P.follows .mixedOrders=true) (E:Region.lexB .any l.toArray=true)
  (h:∀ W,W=w→wpQuiet P l.toArray (fun A=>∃ p:World,A=gw W p) (fun B=>∀ A,G w A→Q .normal B A) l a):(Code.region id l.toArray true).wp P Q a w:=by
 refine wp_region_quiet (C:=fun A=>∃ p:World,A=gw w p) F E ((af w).drew.ex) ?_;have h2:=h w rfl;have e:(fun B=>∀ A,G w A→Q .normal B A)=(fun B=>∀ A,(∃ p:World,A=gw w p)→Q .normal B A):=by
  funext B
  apply propext;constructor
  ·intro D A ⟨p,I⟩;rw[I];exact D _ (gw_G w p)
  ·intro D A J;exact D A J.ex
 rw[e] at h2;simpa using h2
theorem eH (n:Int) (w:World):(callFunc 100 #[Value.int IntKind.u64 n]).run Tryz.prog w= .ok (.value (.float .f64 n.toNat)) w:=by kernel_rfl
theorem ff (n:Nat) (w:World):(callFunc 101 #[Value.float .f64 n]).run Tryz.prog w= .ok (.value (.int .u64 n)) w:=by kernel_rfl
theorem er {k:IntKind} {a b:Int} (h:a=b):Ending.returned (.int k a)= .returned (.int k b):=by rw[h]
theorem eM {a b:Nat} (h:a≤b):(2:Nat)^a≤2^b:=ak dT h
theorem fR {E n:Nat} (h:E≤n):(1:Int)≤2^E∧(2:Int)^E≤2^n:=by
 have h1:=eM h;have h2:=ae E;constructor
 ·have:((1:Nat):Int)≤((2^E:Nat):Int):=by omega
  simpa using this
 ·have:((2^E:Nat):Int)≤((2^n:Nat):Int):=by omega
  simpa using this
theorem mo (E F:Nat) (w:World) (h1:E≤11):
  Calls Tryz.prog 136 #[.agg #[.int .i64 E,.int .i64 F]] w fun e A=>e= .returned (.int .i64 (2^E-1))∧G w A:=by
 have B:=fR h1;go_enter Tryz.func136,Tryz.ntmps136;go_wp2;go_ret;refine⟨er ?_,(af _).alloc _⟩
 go_arith
theorem mA (E F:Nat) (w:World) (B:1≤E) (h1:E≤11):
  Calls Tryz.prog 185 #[.agg #[.int .i64 E,.int .i64 F]] w fun e A=>e= .returned (.int .i64 (2^(E-1)-1))∧G w A:=by
 have C:=fR (show E-1≤11 by omega);go_enter Tryz.func185,Tryz.ntmps185;go_wp2;go_ret;refine⟨er ?_,(af _).alloc _⟩
 go_arith
theorem oI (E F:Nat) (w:World) (h1:F≤63):
  Calls Tryz.prog 184 #[.agg #[.int .i64 E,.int .i64 F]] w fun e A=>e= .returned (.int .u64 (2^F))∧G w A:=by
 have B:=fR h1;go_enter Tryz.func184,Tryz.ntmps184;go_wp2;go_ret;refine⟨er ?_,(af _).alloc _⟩
 go_arith
theorem q1P (E F:Nat) (w:World) (h1:E+F≤63):
  Calls Tryz.prog 210 #[.agg #[.int .i64 E,.int .i64 F]] w fun e A=>e= .returned (.int .u64 (2^(E+F)))∧G w A:=by
 have B:=fR h1;go_enter Tryz.func210,Tryz.ntmps210;go_wp2;go_ret;refine⟨er ?_,(af _).alloc _⟩
 go_arith
theorem jm (w:World):
  Calls Tryz.prog 137 #[] w fun e A=>e= .returned (.agg #[.int .i64 11,.int .i64 52])∧G w A:=by
 go_enter Tryz.func137,Tryz.ntmps137;go_wp2
 go_returns
 exact⟨rfl,(af _).alloc _⟩
theorem mw (E F:Nat) (w:World) (h1:E≤11) (h2:F≤52):
  Calls Tryz.prog 223 #[.agg #[.int .i64 E,.int .i64 F]] w fun e C=>e= .returned (.int .u64 ((2^E-1)*2^F))∧G w C:=by
 have D:=fR h1;have I:=fR h2;have J:(0:Int)≤(2^E-1)*2^F:=dw dT dT;have K:((2:Int)^E-1)*2^F≤2047*2^52:=Int.mul_le_mul dT dT dT dT;go_enter Tryz.func223,Tryz.ntmps223;go_wp2_with fail
 go_region_with (go_at_call 136;refine(mo E F _ h1).mono ?_;rintro e L ⟨rfl,A⟩;have B:=A.cell (p:=⟨w.heap.size,1,none⟩) (v:= .int .i64 F) eO (by simp [go_sem]))
 all_goals
  go_wp2;go_ret;exact⟨er (by simp (disch:=omega) only[IntWalk.u64_in]),aa ((af _).alloc _).drew A⟩
attribute [local go_sem] eH ff
theorem nE (b:Nat) (w:World):
  Calls Tryz.prog 82 #[.float .f64 b] w fun e A=>e= .returned (.bool (FT.nan b))∧G w A:=by
 have h:=FT.neq_self b;go_enter Tryz.func82,Tryz.ntmps82;go_wp2;go_ret;exact⟨rfl,af _⟩
/-- The same bits, or both no number. -/
def same (a b:Nat):Bool:=a==b||(FT.nan a&&FT.nan b)
end Go.Proofs.YtfnkkkcojnffdaaGreatDoor
namespace Go.Proofs.YtfnkkkcojnffdaaGreatDoor
open Go.ChangeShapes Go.WideShapes Go.ChangeAt Go.RowKit
theorem ny {w A:World} (h:G w A:=by repeat' (first|exact af _|assumption|refine G.alloc ?_ _|refine G.drew ?_ |refine G.drewN ?_ _|(refine aa ?_ (by assumption)))):G w A:=h
theorem ge9 {a b:World} (p:Addr) (v:Value) (h:G a b) (A:p.block<a.heap.size:=by first|assumption|(simp;done)|(simp;omega)|omega) (hv:a.cell? p=some v:=by assumption):b.cell? p=some v:=h.cell A hv
theorem hi9 {P:Prop} (h:P):Hid P:=h
theorem ft {P:Prop} (h:P:=by first|(go_simp;done)|(go_simp;with_reducible rfl)):P:=h
theorem gt9 {P:Prop} (h:P:=by intro B A;first|(go_simp;done)|(go_simp;with_reducible rfl)):P:=h
theorem fT {w:World} (a:Addr) (x:Value) (hb:a.block<w.heap.size:=by rw[hW];first|assumption|(simp;done)|(simp;omega)|omega) (h:w.cell? a=some x:=by rw[hW];first|assumption|(simp [go_sem];done)|(simp [*,go_sem];done)) (p:World):(gw w p).cell? a=some x:=q0u hb h p
end Go.Proofs.YtfnkkkcojnffdaaGreatDoor
