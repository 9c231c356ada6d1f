/- What is proved here: the law on sums of lists: small functions, slices of ints, over this seat's translation.
What is proved here: the law's question 'enough', over this seat's translation.
What is proved here: the law ExpanTells: lists of which nothing is claimed, over this seat's translation. -/
import Derived.Test.YtljkfjjchkehaaaGreatDoorC32
import Derived.Deep.Upon
namespace Go.Proofs.YtljkfjjchkehaaaGreatDoor.EN
open Go.ChangeShapes Go.WideShapes Go.ChangeAt Go.RowKit
attribute [local go_sem] q0M
theorem q8X (w:World) (n:Nat) (hn:n≤300):Calls Tryz.prog 8 #[.int .i64 (n:Int)] w fun e w'=>e= .returned (.bool true)∧G w w':=by
 have h:decide ((n:Int)≤300)=true:=decide_eq_true (by omega)
 go_enter Tryz.func8,Tryz.ntmps8
 go_wp2_with fail
 go_ret
 exact⟨rfl,G.refl _⟩
/-- What is appended may be nothing. -/
theorem q7Z (w:World) (base:Nat) (v src:Value) (l m:List Nat) (h:FOwn w base v l) (hb:base≤w.heap.size) (hsrc:FSl w src m) (hlen:l.length+m.length≤1000000):
  ∃ v' w',(Builtin.append_ #[22,22] 22 #[v,src]).run Tryz.prog w= .ok v' w'∧FOwn w' base v' (l++m)∧Onto base v w w':=by
 obtain⟨a,c,rfl,-,hr⟩:=hsrc
 by_cases hm:m=[]
 ·subst hm
  obtain⟨i,hi,-⟩:=q94
  have hS:Src Tryz.prog i.size 22 (.slice a 0 c) 0 [] w:=by
   cases a with
   |none=>exact Src.ofNil w Tryz.underlying22 c
   |some a=>exact Src.ofSlice w Tryz.underlying22 a 0 c [] (by simp) (fun j u hu=>by simp at hu) (fun u hu=>by cases hu)
  have hl:∃ ao n cap,v= .slice ao n cap∧n≤cap:=by
   rcases h with ⟨rfl,-⟩|⟨g,cap,cur,rfl,-,-,h3,-⟩
   ·exact⟨_,_,_,rfl,Nat.le_refl _⟩
   ·exact⟨_,_,_,rfl,h3⟩
  obtain⟨ao,n,cap,rfl,hle⟩:=hl
  refine⟨_,w,run_append_nothing (P:=Tryz.prog) w 22 22 22 26 i Tryz.underlying22 hi ao n cap hle _ hS,by rw[List.append_nil];exact h,q49 (G.refl w)⟩
 ·have hpos:0<m.length:=List.length_pos_iff.2 hm
  obtain⟨b,o,rfl,-,-⟩:=hr 0 hpos
  refine q5p w base v l m h hb ⟨b,o,none⟩ m.length c rfl (fun j hj=> ?_) hlen hpos
  obtain⟨b2,o2,e2,-,h2⟩:=hr j hj
  injection e2 with e2
  injection e2 with e4 e5
  subst e4;subst e5
  rw[addr_add]
  exact h2
theorem q5f (w:World) (b:Nat) (h:(FloatKind.f64.format.order b b==some .eq)=true):Calls Tryz.prog 20 #[.float .f64 b,.float .f64 b] w fun e w'=>e= .returned (.bool true)∧G w w':=by
 go_enter Tryz.func20,Tryz.ntmps20
 go_wp2_with fail
 go_ret
 exact⟨rfl,G.refl _⟩
end Go.Proofs.YtljkfjjchkehaaaGreatDoor.EN
namespace Go.Proofs.YtljkfjjchkehaaaGreatDoor.EN
open Go.ChangeShapes Go.WideShapes Go.ChangeAt Go.RowKit
theorem q1j (w:World) (n:Nat):Calls Tryz.prog 8 #[.int .i64 (n:Int)] w fun e w'=>e= .returned (.bool (decide (n≤300∨(2000<n∧n<5000))))∧G w w':=by
 by_cases h1:n≤300
 ·rw[decide_eq_true (Or.inl h1)]
  exact q8X w n h1
 ·have h2:decide ((n:Int)≤300)=false:=decide_eq_false (by omega)
  by_cases h3:2000<n
  ·have h4:decide ((2000:Int)<n)=true:=decide_eq_true (by omega)
   have h5:decide (n≤300∨(2000<n∧n<5000))=decide ((n:Int)<5000):=decide_eq_decide.2 (by omega)
   rw[h5]
   clear h5 h1 h3
   go_enter Tryz.func8,Tryz.ntmps8
   go_wp2_with fail
   go_ret
   exact⟨by simp,G.refl _⟩
  ·have h4:decide ((2000:Int)<n)=false:=decide_eq_false (by omega)
   rw[decide_eq_false (show ¬ (n≤300∨(2000<n∧n<5000)) by omega)]
   clear h1 h3
   go_enter Tryz.func8,Tryz.ntmps8
   go_wp2_with fail
   go_ret
   exact⟨by simp,G.refl _⟩
theorem q6B (w:World) (pa pb:Option Addr) (n ca k cb:Nat) (hT:Tab w) (hn:¬ ((n≤300∨(2000<n∧n<5000))∧(k≤300∨(2000<k∧k<5000)))):
  Calls Tryz.prog 3 #[.slice pa n ca,.slice pb k cb] w fun e w'=>e= .returned (.bool true)∧G w w':=by
 have HS:Hid _:=q2j w hT
 have HE:Hid (∀ w1,_):=fun w1=>q1j w1 n
 have HE2:Hid (∀ w1,_):=fun w1=>q1j w1 k
 by_cases h1:n≤300∨(2000<n∧n<5000)
 ·rw[decide_eq_true h1] at HE
  rw[decide_eq_false (fun h2=>hn ⟨h1,h2⟩)] at HE2
  clear hn h1
  go_enter Tryz.func3,Tryz.ntmps3
  go_wp2_with fail
  refine Calls.mono (P:=Tryz.prog) HS.out ?_
  rintro e1 w1 ⟨rfl,g1⟩
  go_wp2_with fail
  refine Calls.mono (P:=Tryz.prog) (HE.out w1) ?_
  rintro e2 w2 ⟨rfl,g2⟩
  go_wp2_with fail
  refine Calls.mono (P:=Tryz.prog) (HE2.out w2) ?_
  rintro e3 w3 ⟨rfl,g3⟩
  go_wp2_with fail
  go_ret
  exact⟨rfl,G.trans g1 (G.trans g2 g3)⟩
 ·rw[decide_eq_false h1] at HE
  clear hn h1
  go_enter Tryz.func3,Tryz.ntmps3
  go_wp2_with fail
  refine Calls.mono (P:=Tryz.prog) HS.out ?_
  rintro e1 w1 ⟨rfl,g1⟩
  go_wp2_with fail
  refine Calls.mono (P:=Tryz.prog) (HE.out w1) ?_
  rintro e2 w2 ⟨rfl,g2⟩
  go_wp2_with fail
  go_ret
  exact⟨rfl,G.trans g1 g2⟩
end Go.Proofs.YtljkfjjchkehaaaGreatDoor.EN
