/- What is proved here: contracts of package exact's reader of texts: where digits end, over this seat's translation. -/
import Derived.Test.YtfnkkkcojnffdaaGreatDoorC1
import Derived.Test.YtfnkkkcojnffdaaGreatDoorC4
import Derived.Test.YtfnkkkcojnffdaaGreatDoorC4
import Derived.Test.YtfnkkkcojnffdaaGreatDoorC20
namespace Go.Proofs.YtfnkkkcojnffdaaGreatDoor.EN
open Go.ChangeShapes Go.WideShapes Go.ChangeAt Go.RowKit
/-- A text of these bytes. -/
def Tx (s:ByteArray) (l:List UInt8):Prop:=s.data.toList=l
theorem Tx.size {s:ByteArray} {l:List UInt8} (h:Tx s l):s.size=l.length:=by
 show s.data.size=_;rw[← Array.length_toList];exact congrArg List.length h
theorem Tx.at {s:ByteArray} {l:List UInt8} (h:Tx s l) {i:Nat} {c:UInt8} (A:l[i]? =some c) (hi:i<s.size):(s[i]'hi).toNat=c.toNat:=by
 obtain⟨h1,hv⟩:=aQ.1 A;subst h;rw[← hv];rfl
theorem fr (w:World) (s:ByteArray) (p t r:List UInt8) (B:Tx s (p++(t++r))) (E:Digs t) (D:Stop r) (L:s.size<2^40):
  Calls Tryz.prog 89 #[.string s,.int .i64 (p.length:Nat)] w fun e K=>e= .returned (.int .i64 ((p.length+t.length:Nat):Int))∧G w K:=by
 have C:=B.size;rw[ag,ag] at C;have I:Hid (∀ k,k<t.length→∃ c:Nat,48≤c∧c≤57∧∀ hi:p.length+k<s.size,(s[p.length+k]'hi).toNat=c):=by
  intro k A;obtain⟨h1,h2⟩:=isDig_iff.1 (E t[k] (List.getElem_mem A));exact⟨t[k].toNat,h1,h2,fun hi=>B.at (by rw[aZ dT,cR,List.getElem?_append_left A,aB A]) hi⟩
 have F:Hid (0<r.length→∃ c:Nat,(c<48∨57<c)∧∀ hi:p.length+t.length<s.size,(s[p.length+t.length]'hi).toNat=c):=by
  intro J;cases r with
  |nil=>cases J
  |cons c r=>
   have h1:=D c r rfl;refine⟨c.toNat,?_,fun hi=>B.at (by rw[aZ dT,cR,aZ dT,dJ];rfl) hi⟩;rcases bg c.toNat 48 with h|h
   ·exact Or.inl h
   ·refine Or.inr ?_;rcases bg 57 c.toNat with h2|h2
    ·exact h2
    ·rw[isDig_iff.2 ⟨h,h2⟩] at h1;cases h1
 generalize p.length=a at *;generalize t.length=b at *;generalize r.length=d at *;clear B E D;go_enter Tryz.func89,Tryz.ntmps89;go_wp2
 go_loop [1] (fun v=>∃ k:Nat,k≤b∧v= .int .i64 ((a+k:Nat):Int)) (fun v=>a+b-(intOf v).toNat)
 case atStart=>exact⟨0,bo _,rfl⟩
 case round=>
  obtain⟨k,A,rfl⟩:=hrel;rcases bg k b with h|h
  ·obtain⟨c,h1,h2,h3⟩:=I.out k h;have t1:decide (a+k<s.size)=true:=decide_eq_true dT;have t2:decide ((48:Int)≤(c:Int))=true:=decide_eq_true dT;have t3:decide ((c:Int)≤57)=true:=decide_eq_true dT;clear h1 h2;go_wp2
   go_round
   case rel=>exact⟨k+1,by omega,by go_num⟩
   case measure=>simp [intOf];omega
  ·obtain rfl:k=b:=by omega
   cases d with
   |zero=>
    have t1:decide (a+k<s.size)=false:=decide_eq_false dT;go_wp2;go_ret;exact⟨by go_num,af _⟩
   |succ d=>
    obtain⟨c,h1,h3⟩:=F.out (Nat.succ_pos _);have t1:decide (a+k<s.size)=true:=decide_eq_true dT;rcases h1 with h1|h1
    ·have t2:decide ((48:Int)≤(c:Int))=false:=decide_eq_false dT;clear h1;go_wp2;go_ret;exact⟨by go_num,af _⟩
    ·have t2:decide ((48:Int)≤(c:Int))=true:=decide_eq_true dT;have t3:decide ((c:Int)≤57)=false:=decide_eq_false dT;clear h1;go_wp2;go_ret;exact⟨by go_num,af _⟩
end Go.Proofs.YtfnkkkcojnffdaaGreatDoor.EN
