/- What is proved here: contracts of the small functions of package bits (formats), over this seat's translation.
What is proved here: contracts of package bits, Split to Join, over this seat's translation.
What is proved here: contracts of functions of package math (tests, signs), over this seat's translation. -/
import Derived.Test.YtbfjihniphldaaaGreatDoorRows
import Derived.Test.YtbfjihniphldaaaGreatDoorC1
import Derived.WalkKit
import Derived.ProofKit
import Derived.OpenShut
import Derived.WalkLawsBesides
import Derived.Handy
import Derived.Deep.QuietTactic
import Derived.BigQuiet
import Derived.Deep.RegionWith
namespace Go.Proofs.YtbfjihniphldaaaGreatDoor
open Go.ChangeShapes Go.WideShapes Go.ChangeAt Go.RowKit
/-- Nothing that was there has turned; the rest is new. -/
def G (w w':World):Prop:=Below w.heap.size w w'
theorem G.refl (w:World):G w w:=Below.refl _ _
theorem G.trans {a b c:World} (h:G a b) (k:G b c):G a c:=Below.trans h (Below.mono k (Below.size h))
theorem G.alloc {a b:World} (h:G a b) (o:Obj):G a (b.alloc o):=Below.alloc h (Below.size h) o
theorem G.drew {a b:World} (h:G a b):G a b.drew:=Below.drew h
theorem G.drewN {a b:World} (h:G a b) (n:Nat):G a (b.drewN n):=below_drewN h n
theorem G.setCell {a b:World} (h:G a b) {p:Addr} (hp:a.heap.size≤p.block) (u:Value):G a (b.setCell p u):=Below.setCell h hp u
theorem G.size {a b:World} (h:G a b):a.heap.size≤b.heap.size:=Below.size h
theorem G.cell {a b:World} (h:G a b) {p:Addr} {v:Value} (hp:p.block<a.heap.size) (hv:a.cell? p=some v):b.cell? p=some v:=(Below.cell h hp).trans hv
theorem G.frozen {a b:World} (h:G a b) {p:Addr} {v:Bool} (hp:p.block<a.heap.size) (hv:a.frozen? p=v):b.frozen? p=v:=(Below.frozen h hp).trans hv
/-- w with blocks behind its heap, whatever has been drawn ('p' brings both). -/
def gw (w:World) (p:World):World:={w with heap:=w.heap++p.heap,drawn:=p.drawn}
theorem gw_G (w:World) (p:World):G w (gw w p):=
 ⟨rfl,rfl,rfl,by simp [gw],fun k hk=>by simp [gw,Array.getElem?_append,hk]⟩
theorem G.ex {w w':World} (h:G w w'):∃ p,w'=gw w p:=by
 obtain⟨h1,h2,h3,h4,h5⟩:=h;refine⟨{w' with heap:=w'.heap.extract w.heap.size},?_⟩;have hh:w'.heap=w.heap++w'.heap.extract w.heap.size:=by
  apply Array.ext_getElem?;intro k;by_cases hk:k<w.heap.size
  ·rw[h5 k hk,Array.getElem?_append_left hk]
  ·rw[Array.getElem?_append_right (by omega),Array.getElem?_extract];by_cases hk2:k<w'.heap.size
   ·rw[if_pos (by omega)]
    congr 1
    omega
   ·rw[if_neg (by omega),Array.getElem?_eq_none (by omega)]
 cases w;cases w';simp only[gw] at *;subst h1 h2 h3;rw[← hh]
theorem q08 {w:World} {a:Addr} {x:Value} (hb:a.block<w.heap.size) (h:w.cell? a=some x) (p:World):(gw w p).cell? a=some x:=(gw_G w p).cell hb h
theorem q2u {P:Program} {f:FuncId} {args:Array Value} {w:World} {p:World} {x:Value}
  (h:Calls P f args (gw w p) fun e w'=>e= .returned x∧G (gw w p) w'):Calls P f args (gw w p) fun e w''=>e= .returned x∧∃ q,w''=gw w q:=
 h.mono fun _ _ ⟨he,hG⟩=>⟨he,(G.trans (gw_G w p) hG).ex⟩
theorem q0f {P:Program} {id:Nat} {Q:Exit→Act→World→Prop} {a:Act} {w:World} {l:List Oper} (hm:P.follows .mixedOrders=true) (hB:Region.lexB .any l.toArray=true)
  (h:∀ W,W=w→wpQuiet P l.toArray (fun w'=>∃ p:World,w'=gw W p) (fun a'=>∀ w',G w w'→Q .normal a' w') l a):(Code.region id l.toArray true).wp P Q a w:=by
 refine wp_region_quiet (C:=fun w'=>∃ p:World,w'=gw w p) hm hB ((G.refl w).drew.ex) ?_;have h2:=h w rfl;have e:(fun a'=>∀ w',G w w'→Q .normal a' w')=(fun a'=>∀ w',(∃ p:World,w'=gw w p)→Q .normal a' w'):=by
  funext a'
  apply propext;constructor
  ·intro hh w' ⟨p,hp⟩;rw[hp];exact hh _ (gw_G w p)
  ·intro hh w' hw;exact hh w' hw.ex
 rw[e] at h2;simpa using h2
theorem q0i (n:Int) (w:World):(callFunc 103 #[Value.int IntKind.u64 n]).run Tryz.prog w= .ok (.value (.float .f64 n.toNat)) w:=by kernel_rfl
theorem q0q (n:Nat) (w:World):(callFunc 62 #[Value.float .f64 n]).run Tryz.prog w= .ok (.value (.int .u64 n)) w:=by kernel_rfl
theorem q0x {k:IntKind} {a b:Int} (h:a=b):Ending.returned (.int k a)= .returned (.int k b):=by rw[h]
theorem q0Q {a b:Nat} (h:a≤b):(2:Nat)^a≤2^b:=Nat.pow_le_pow_right (by omega) h
theorem q1M {E n:Nat} (h:E≤n):(1:Int)≤2^E∧(2:Int)^E≤2^n:=by
 have h1:=q0Q h;have h2:=Nat.two_pow_pos E;constructor
 ·have:((1:Nat):Int)≤((2^E:Nat):Int):=by omega
  simpa using this
 ·have:((2^E:Nat):Int)≤((2^n:Nat):Int):=by omega
  simpa using this
theorem q2e (E F:Nat) (w:World) (h1:E≤11):
  Calls Tryz.prog 107 #[.agg #[.int .i64 E,.int .i64 F]] w fun e w'=>e= .returned (.int .i64 (2^E-1))∧G w w':=by
 have hp:=q1M h1;go_enter Tryz.func107,Tryz.ntmps107;go_wp2;go_ret;refine⟨q0x ?_,(G.refl _).alloc _⟩
 go_arith
theorem q8j (E F:Nat) (w:World) (h0:1≤E) (h1:E≤11):
  Calls Tryz.prog 169 #[.agg #[.int .i64 E,.int .i64 F]] w fun e w'=>e= .returned (.int .i64 (2^(E-1)-1))∧G w w':=by
 have hp:=q1M (show E-1≤11 by omega);go_enter Tryz.func169,Tryz.ntmps169;go_wp2;go_ret;refine⟨q0x ?_,(G.refl _).alloc _⟩
 go_arith
theorem q53 (E F:Nat) (w:World) (h1:F≤63):
  Calls Tryz.prog 168 #[.agg #[.int .i64 E,.int .i64 F]] w fun e w'=>e= .returned (.int .u64 (2^F))∧G w w':=by
 have hp:=q1M h1;go_enter Tryz.func168,Tryz.ntmps168;go_wp2;go_ret;refine⟨q0x ?_,(G.refl _).alloc _⟩
 go_arith
theorem q9t (E F:Nat) (w:World) (h1:E+F≤63):
  Calls Tryz.prog 219 #[.agg #[.int .i64 E,.int .i64 F]] w fun e w'=>e= .returned (.int .u64 (2^(E+F)))∧G w w':=by
 have hp:=q1M h1;go_enter Tryz.func219,Tryz.ntmps219;go_wp2;go_ret;refine⟨q0x ?_,(G.refl _).alloc _⟩
 go_arith
theorem q1N (w:World):
  Calls Tryz.prog 108 #[] w fun e w'=>e= .returned (.agg #[.int .i64 11,.int .i64 52])∧G w w':=by
 go_enter Tryz.func108,Tryz.ntmps108;go_wp2
 go_returns
 exact⟨rfl,(G.refl _).alloc _⟩
theorem q6H (E F:Nat) (w:World) (h1:E≤11) (h2:F≤52):
  Calls Tryz.prog 228 #[.agg #[.int .i64 E,.int .i64 F]] w fun e w'=>e= .returned (.int .u64 ((2^E-1)*2^F))∧G w w':=by
 have hp:=q1M h1;have hq:=q1M h2;have hx:(0:Int)≤(2^E-1)*2^F:=Int.mul_nonneg (by omega) (by omega);have hy:((2:Int)^E-1)*2^F≤2047*2^52:=Int.mul_le_mul (by omega) (by omega) (by omega) (by omega);go_enter Tryz.func228,Tryz.ntmps228;go_wp2_with fail
 go_region_with (go_at_call 107;refine(q2e E F _ h1).mono ?_;rintro e w1 ⟨rfl,hb1⟩;have hc1:=hb1.cell (p:=⟨w.heap.size,1,none⟩) (v:= .int .i64 F) (by simp) (by simp [go_sem]))
 all_goals
  go_wp2;go_ret;exact⟨q0x (by simp (disch:=omega) only[IntWalk.u64_in]),G.trans ((G.refl _).alloc _).drew hb1⟩
attribute [local go_sem] q0i q0q
theorem q8z {a a':Bool} {b b' c c':Int} (h1:a=a') (h2:b=b') (h3:c=c'):
  Ending.returned (.tuple #[.bool a,.int .i64 b,.int .u64 c])= .returned (.tuple #[.bool a',.int .i64 b',.int .u64 c']):=by rw[h1,h2,h3]
set_option maxRecDepth 100000 in
theorem q93 (b E F:Nat) (w:World) (h0:b<2^64) (h1:E≤11) (h2:F≤52) (h3:1≤F):
  Calls Tryz.prog 167 #[.int .u64 b,.agg #[.int .i64 E,.int .i64 F]] w fun e w'=>
   e= .returned (.tuple #[.bool (b/2^(E+F)%2==1),.int .i64 (b/2^F%2^E:Nat),.int .u64 (b%2^F:Nat)])∧G w w':=by
 have hp:=q1M h1;have hq:=q1M h2;have hdiv:b/2^F<2^63:=by
  have:2^1≤2^F:=q0Q h3;rw[Nat.div_lt_iff_lt_mul (by omega)]
  calc b<2^64:=h0
   _=2^63*2^1:=by rfl
   _≤2^63*2^F:=Nat.mul_le_mul_left _ this
 have f1:=FT.and_mask b F h0 (by omega);have f2:=FT.and_mask_i64 (b/2^F) E hdiv (by omega);have f3:=FT.and_bit b (E+F) h0 (by omega);have f4:wrap64 ((b:Int)/2^F)=((b/2^F:Nat):Int):=by
  rw[FT.ipow,← Int.natCast_ediv];generalize b/2^F=q at *;rw[IntWalk.wrap64_in _ (by omega)]
 have F1:Hid _:=f1;have F2:Hid _:=f2;have F3:Hid _:=f3;have F4:Hid _:=f4;clear f1 f2 f3 f4;go_enter Tryz.func167,Tryz.ntmps167;go_wp2_with fail;refine(q53 E F _ (by omega)).mono ?_;rintro e w1 ⟨rfl,hb1⟩;have hc0:=hb1.cell (p:=⟨w.heap.size,0,none⟩) (v:= .int .i64 E) (by simp) (by simp [go_sem]);have hc1:=hb1.cell (p:=⟨w.heap.size,1,none⟩) (v:= .int .i64 F) (by simp) (by simp [go_sem]);have hz1:w.heap.size+1≤w1.heap.size:=by simpa using hb1.size
 go_wp2_with fail
 go_region_with (go_at_call 107;refine(q2e E F _ h1).mono ?_;rintro e w2 ⟨rfl,hb2⟩;have hd1:=hb2.cell (p:=⟨w.heap.size,1,none⟩) (v:= .int .i64 F) (by simp;omega) (by simpa using hc1);have hd0:=hb2.cell (p:=⟨w.heap.size,0,none⟩) (v:= .int .i64 E) (by simp;omega) (by simpa using hc0))
 all_goals
  clear hc0 hc1;go_wp2_with fail;refine(q9t E F _ (by omega)).mono ?_;rintro e w3 ⟨rfl,hb3⟩;go_wp2
  go_ret3
  exact⟨q8z F3.out (by rw[F4.out];exact F2.out) F1.out,G.trans (G.trans (G.trans ((G.refl _).alloc _) hb1).drew hb2) hb3⟩
set_option maxRecDepth 100000 in
theorem q1a (neg:Bool) (b:Nat) (w:World) (h:b<2^63):
  Calls Tryz.prog 197 #[.bool neg,.int .u64 b] w fun e w'=>e= .returned (.float .f64 (if neg then b+2^63 else b))∧G w w':=by
 have F1:Hid _:=FT.or_sign b h;cases neg
 ·go_enter Tryz.func197,Tryz.ntmps197;go_wp2;go_ret;exact⟨by simp,G.refl _⟩
 ·go_enter Tryz.func197,Tryz.ntmps197;go_wp2_with fail;refine(q1N _).mono ?_;rintro e w1 ⟨rfl,hb1⟩;go_wp2_with fail;refine(q9t 11 52 _ (by omega)).mono ?_;rintro e w2 ⟨rfl,hb2⟩;go_wp2;go_ret;exact⟨by rw[F1.out];rfl,G.trans hb1 hb2⟩
set_option maxRecDepth 100000 in
theorem q1S (exp mR E F:Nat) (w:World) (h0:mR<2^F) (h1:1≤E) (h2:E≤11) (h3:F≤52) (h4:exp<2^11):
  Calls Tryz.prog 109 #[.int .i64 exp,.int .u64 mR,.agg #[.int .i64 E,.int .i64 F]] w fun e w'=>
   e= .returned (.tuple #[.int .u64 ((if exp=0 then mR else 2^F+mR:Nat):Int),.int .i64 ((max exp 1:Nat)-(2^(E-1)-1)-F)])∧G w w':=by
 have hp:=q1M (show E-1≤11 by omega);have hq:=q1M h3;have hor:bits .or .u64 (mR:Int) (2^F)=((2^F+mR:Nat):Int):=by
  have hq':=q0Q h3;rw[FT.ipow,u64_or_nat mR _ (by omega) (by omega),Nat.or_comm,nat_join F (2^F) mR (by simp) h0]
 have F1:Hid _:=hor;clear hor;by_cases hz:exp=0
 ·subst hz;go_enter Tryz.func109,Tryz.ntmps109;go_wp2_with fail;refine q0f (by kernel_rfl) (by kernel_rfl) ?_;intro W hW;have hq1:=q08 (w:=W) (a:=⟨w.heap.size,0,none⟩) (x:= .int .i64 E) (by rw[hW];first|(simp;done)|(simp;omega)|omega) (by rw[hW];first|assumption|(simp [go_sem];done)|(simp [*,go_sem];done));have hq2:=q08 (w:=W) (a:=⟨w.heap.size,1,none⟩) (x:= .int .i64 F) (by rw[hW];first|(simp;done)|(simp;omega)|omega) (by rw[hW];first|assumption|(simp [go_sem];done)|(simp [*,go_sem];done));clear hW
  repeat (go_big_quiet_step ((go_at_call 169;exact q2u (q8j E F _ h1 h2))))
  refine wpQuiet_nil ?_;clear hq1 hq2;intro w1 hw1;go_wp2
  go_ret2
  exact⟨by simp,G.trans ((G.refl _).alloc _) hw1⟩
 ·have hz':((exp:Int)==0)=false:=by simp;omega
  have hne:((exp:Int) != 0)=true:=by simp;omega
  have hm:max exp 1=exp:=by omega
  rw[hm];clear hm;go_enter Tryz.func109,Tryz.ntmps109;go_wp2_with fail;refine(q53 E F _ (by omega)).mono ?_;rintro e w1 ⟨rfl,hb1⟩;have Tf:=hb1.cell (p:=⟨w.heap.size,0,none⟩) (v:= .int .i64 E) (by first|(simp;done)|(simp;omega)|omega) (by first|assumption|(simp [go_sem];done)|(simp [*,go_sem];done));have hc6:=hb1.cell (p:=⟨w.heap.size,1,none⟩) (v:= .int .i64 F) (by first|(simp;done)|(simp;omega)|omega) (by first|assumption|(simp [go_sem];done)|(simp [*,go_sem];done));have aQ:=hb1.size
  try simp at aQ
  go_wp2_with fail;refine q0f (by kernel_rfl) (by kernel_rfl) ?_;intro W hW;have hq3:=q08 (w:=W) (a:=⟨w.heap.size,0,none⟩) (x:= .int .i64 E) (by rw[hW];first|(simp;done)|(simp;omega)|omega) (by rw[hW];first|assumption|(simp [go_sem];done)|(simp [*,go_sem];done));have hq4:=q08 (w:=W) (a:=⟨w.heap.size,1,none⟩) (x:= .int .i64 F) (by rw[hW];first|(simp;done)|(simp;omega)|omega) (by rw[hW];first|assumption|(simp [go_sem];done)|(simp [*,go_sem];done));clear hW
  repeat (go_big_quiet_step ((go_at_call 169;exact q2u (q8j E F _ h1 h2))))
  refine wpQuiet_nil ?_;clear hq3 hq4;intro w2 hw2;go_wp2
  go_ret2
  exact⟨by simp [F1.out],G.trans (G.trans ((G.refl _).alloc _) hb1) hw2⟩
/-- The two fields of a word. -/
theorem q7M (b ex fr:Nat) (w:World) (h0:b<2^64) (he:b/2^52%2^11=ex) (hf:b%2^52=fr):
  Calls Tryz.prog 106 #[.float .f64 b] w fun e w'=>e= .returned (.tuple #[.bool (FT.neg b),.int .i64 ex,.int .u64 fr])∧G w w':=by
 have key:∀ w,Calls Tryz.prog 167 #[.int .u64 b,.agg #[.int .i64 11,.int .i64 52]] w fun e w'=>e= .returned (.tuple #[.bool (FT.neg b),.int .i64 ex,.int .u64 fr])∧G w w':=by
  intro w;have:=q93 b 11 52 w h0 (by omega) (by omega) (by omega);rw[he,hf] at this;exact this
 clear he hf;have K:Hid _:=key;clear key;go_enter Tryz.func106,Tryz.ntmps106;go_wp2_with fail;refine(q1N _).mono ?_;rintro e w1 ⟨rfl,hb1⟩;have aQ:=hb1.size
 try simp at aQ
 go_wp2_with fail;refine(K.out _).mono ?_;rintro e w2 ⟨rfl,hb2⟩;have aT:=hb2.size
 try simp at aT
 go_wp2
 go_ret3
 exact⟨rfl,G.trans hb1 hb2⟩
end Go.Proofs.YtbfjihniphldaaaGreatDoor
namespace Go.Proofs.YtbfjihniphldaaaGreatDoor
open Go.ChangeShapes Go.WideShapes Go.ChangeAt Go.RowKit
attribute [local go_sem] q0i q0q
theorem q1w {a b:Nat} (h:a=b):Ending.returned (.float .f64 a)= .returned (.float .f64 b):=by rw[h]
theorem q1K (b:Nat) (w:World):
  Calls Tryz.prog 41 #[.float .f64 b] w fun e w'=>e= .returned (.bool (FT.nan b))∧G w w':=by
 have h:=FT.neq_self b;go_enter Tryz.func41,Tryz.ntmps41;go_wp2;go_ret;exact⟨rfl,G.refl _⟩
theorem qbD (b:Nat) (w:World) (h:b<2^64):
  Calls Tryz.prog 105 #[.float .f64 b] w fun e w'=>e= .returned (.float .f64 (FT.rung b))∧G w w':=by
 have h:=FT.andnot_sign b h;go_enter Tryz.func105,Tryz.ntmps105;go_wp2;go_ret;exact⟨rfl,G.refl _⟩
theorem q2W (b:Nat) (w:World) (h:b<2^64):
  Calls Tryz.prog 42 #[.float .f64 b,.int .i64 0] w fun e w'=>e= .returned (.bool (decide (FT.rung b=FT.infR)))∧G w w':=by
 have K:Hid _:=fun w=>qbD b w h;have h:=FT.gt_max b;go_enter Tryz.func42,Tryz.ntmps42;go_wp2_with (first|(go_at_call 105;refine(K.out _).mono ?_;rintro e wn ⟨rfl,hbn⟩));go_ret;exact⟨rfl,(by repeat' (first|exact G.refl _|assumption|refine G.alloc ?_ _|refine G.drew ?_ |refine G.drewN ?_ _|(refine G.trans ?_ (by assumption))))⟩
theorem q2Z (a b:Nat) (w:World) (ha:a<2^64) (hb:b<2^64):
  Calls Tryz.prog 64 #[.float .f64 a,.float .f64 b] w fun e w'=>e= .returned (.float .f64 (FT.rung a+if FT.neg b then 2^63 else 0))∧G w w':=by
 have h1:=FT.andnot_sign a ha;have h2:=FT.and_sign b hb;have hr:=FT.rung_lt a;have h3:bits BinOp.or IntKind.u64 ((FT.rung a:Nat):Int) ((if FT.neg b then 2^63 else 0:Nat):Int)=((FT.rung a+if FT.neg b then 2^63 else 0:Nat):Int):=by
  by_cases hn:FT.neg b=true
  ·rw[if_pos hn];exact FT.or_sign _ hr
  ·rw[if_neg hn,u64_or_nat _ _ (by omega) (by omega)];simp
 generalize (if FT.neg b then 2^63 else 0:Nat)=s at *;generalize FT.rung a=r at *;go_enter Tryz.func64,Tryz.ntmps64;go_wp2;go_ret;exact⟨rfl,G.refl _⟩
theorem q92 (s:Int) (w:World) (h:0≤s):
  Calls Tryz.prog 66 #[.int .i64 s] w fun e w'=>e= .returned (.float .f64 FT.infR)∧G w w':=by
 go_enter Tryz.func66,Tryz.ntmps66;go_wp2;go_ret;exact⟨q1w rfl,G.refl _⟩
theorem q7R (s:Int) (w:World) (h:s<0):
  Calls Tryz.prog 66 #[.int .i64 s] w fun e w'=>e= .returned (.float .f64 (FT.infR+2^63))∧G w w':=by
 go_enter Tryz.func66,Tryz.ntmps66;go_wp2;go_ret;exact⟨q1w rfl,G.refl _⟩
theorem q8V (b:Nat) (w:World) (h:b<2^64):
  Calls Tryz.prog 6 #[.float .f64 b] w fun e w'=>e= .returned (.bool (decide (FT.rung b<FT.infR)))∧G w w':=by
 have K1:Hid _:=fun w=>q1K b w;have K2:Hid _:=fun w=>q2W b w h;by_cases hn:FT.nan b=true
 ·rw[hn] at K1;have:¬ FT.rung b<FT.infR:=by unfold FT.nan at hn;simp at hn;omega
  rw[decide_eq_false this];go_enter Tryz.func6,Tryz.ntmps6;go_wp2_with (first|(go_at_call 41;refine(K1.out _).mono ?_;rintro e wn ⟨rfl,hbn⟩));go_ret;exact⟨rfl,(by repeat' (first|exact G.refl _|assumption|refine G.alloc ?_ _|refine G.drew ?_ |refine G.drewN ?_ _|(refine G.trans ?_ (by assumption))))⟩
 ·have hn':FT.nan b=false:=by simpa using hn
  rw[hn'] at K1;have hle:FT.rung b≤FT.infR:=by unfold FT.nan at hn';simp at hn';omega
  by_cases hi:FT.rung b=FT.infR
  ·rw[decide_eq_true hi] at K2;rw[decide_eq_false (by omega)];clear hle hi;go_enter Tryz.func6,Tryz.ntmps6;go_wp2_with (first|(go_at_call 41;refine(K1.out _).mono ?_;rintro e wn ⟨rfl,hbn⟩)|(go_at_call 42;refine(K2.out _).mono ?_;rintro e wn ⟨rfl,hbn⟩));go_ret;exact⟨rfl,(by repeat' (first|exact G.refl _|assumption|refine G.alloc ?_ _|refine G.drew ?_ |refine G.drewN ?_ _|(refine G.trans ?_ (by assumption))))⟩
  ·rw[decide_eq_false hi] at K2;rw[decide_eq_true (by omega)];clear hle hi;go_enter Tryz.func6,Tryz.ntmps6;go_wp2_with (first|(go_at_call 41;refine(K1.out _).mono ?_;rintro e wn ⟨rfl,hbn⟩)|(go_at_call 42;refine(K2.out _).mono ?_;rintro e wn ⟨rfl,hbn⟩));go_ret;exact⟨rfl,(by repeat' (first|exact G.refl _|assumption|refine G.alloc ?_ _|refine G.drew ?_ |refine G.drewN ?_ _|(refine G.trans ?_ (by assumption))))⟩
/-- The same bits, or both no number. -/
def same (a b:Nat):Bool:=a==b||(FT.nan a&&FT.nan b)
end Go.Proofs.YtbfjihniphldaaaGreatDoor
