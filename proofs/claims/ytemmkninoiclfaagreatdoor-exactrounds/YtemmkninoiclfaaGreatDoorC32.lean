/- What is proved here: contracts of package exact: texts of small numbers, over this seat's translation. -/
import Derived.Test.YtemmkninoiclfaaGreatDoorC28
import Derived.Test.YtemmkninoiclfaaGreatDoorC31
import Derived.Handy
namespace Go.Proofs.YtemmkninoiclfaaGreatDoor.EN
open Go.ChangeShapes Go.WideShapes Go.ChangeAt Go.RowKit
theorem qco (w:World) (n:Nat) (hn:n<100):Calls Tryz.prog 163 #[.int .u64 (n:Int),.int .i64 10] w fun e w'=>e= .returned (.string ⟨(Lib.decDigits n).toArray⟩)∧G w w':=by
 have HS:Hid (∀ w1,Calls Tryz.prog 233 #[.int .i64 (n:Int)] w1 fun e w'=>e= .returned (.string ⟨(Lib.decDigits n).toArray⟩)∧w'=w1):=fun w1=>Tryz.internal_strconv_small n hn w1
 have hd:decide ((n:Int)<100)=true:=decide_eq_true (by omega)
 have hd2:decide (n<100)=true:=decide_eq_true hn
 have hni:(n:Int)<100:=by omega
 have HF:Hid (∀ w1,Calls Tryz.prog 213 #[.int .u64 (n:Int),.int .i64 10] w1 fun e w'=>e= .returned (.string ⟨(Lib.decDigits n).toArray⟩)∧G w1 w'):=by
  intro w1
  go_enter Tryz.func213,Tryz.ntmps213
  go_wp2_with fail
  refine Calls.mono (P:=Tryz.prog) (HS.out _) ?_
  rintro e w2 ⟨rfl,rfl⟩
  go_wp2_with fail
  go_ret
  exact⟨rfl,G.refl _⟩
 clear hd hd2 hn hni
 go_enter Tryz.func163,Tryz.ntmps163
 go_wp2_with fail
 refine Calls.mono (P:=Tryz.prog) (HF.out _) ?_
 rintro e w2 ⟨rfl,g⟩
 go_wp2_with fail
 go_ret
 exact⟨rfl,g⟩
theorem q9n (w:World) (va:Value) (n:Nat) (hn0:0<n) (hn:n<100) (ha:Num w va n):
  Calls Tryz.prog 104 #[va] w fun e w'=>e= .returned (.string ⟨(Lib.decDigits n).toArray⟩)∧G w w':=by
 have HD:Hid _:=q1D w va n 10000000000000000000 1 (by omega) ha (by omega) (by omega) (by omega)
 rw[Nat.div_eq_of_lt (by omega),Nat.mod_eq_of_lt (by omega)] at HD
 have HF:Hid (∀ w1,_):=fun w1=>qco w1 n hn
 have hsl:(⟨(Lib.decDigits n).toArray⟩:ByteArray).size≤1000:=by
  show (Lib.decDigits n).toArray.size≤1000
  rw[List.size_toArray,Lib.decDigits]
  split
  ·simp
  ·rw[Lib.decDigits,dif_pos (by omega)];simp
 rcases q0R ha with ⟨h,-⟩|⟨-,-,nb,no,nc,rfl,-,-,-⟩|⟨h,-⟩
 ·omega
 ·clear ha hn0 hn
  go_enter Tryz.func104,Tryz.ntmps104
  go_wp2_with fail
  refine wp_loop_rounds 2 ?_
  rw[rounds_succ]
  go_wp2_with fail
  refine Calls.mono (P:=Tryz.prog) HD.out ?_
  intro e w1 hs
  obtain⟨v,rfl,g1,hv⟩:=hs
  rcases q0R hv with ⟨-,pa,pc,rfl⟩|⟨h,-⟩|⟨h,-⟩
  ·go_wp2_with fail
   refine Calls.mono (P:=Tryz.prog) (HF.out _) ?_
   rintro e w2 ⟨rfl,g2⟩
   go_wp2_with fail
   generalize hS:Value.string ⟨(Lib.decDigits n).toArray⟩=S at *
   generalize (Question.appendCap 1 0 9).cut (w2.tape w2.drawn (Question.appendCap 1 0 9))=cap at *
   generalize Builtin.zeroCells #[Value.string ⟨#[]⟩] (cap-1)=zc at *
   have hc0:(#[S]++zc)[0]? =some S:=by rw[Array.getElem?_append_left (by simp)];rfl
   have hc:((w2.alloc (.cells #[S] 9)).alloc (.cells (#[S]++zc) 9)).drew.cell? ⟨w2.heap.size+1,0,none⟩=some S:=by simp [go_sem,hc0]
   have g3:G w ((w2.alloc (.cells #[S] 9)).alloc (.cells (#[S]++zc) 9)).drew:=((((G.trans g1 g2)).alloc _).alloc _).drew
   have hz3:w2.heap.size+1<((w2.alloc (.cells #[S] 9)).alloc (.cells (#[S]++zc) 9)).drew.heap.size:=by simp
   generalize ((w2.alloc (.cells #[S] 9)).alloc (.cells (#[S]++zc) 9)).drew=w3 at *
   generalize w2.heap.size+1=pb at *
   have hw2:(Value.slice (some ⟨w2.heap.size,0,none⟩) 1 1)=Value.slice (some ⟨w2.heap.size,0,none⟩) 1 1:=rfl
   clear hw2 HF HD hv g1 g2 hc0
   have hbd:(w3.alloc (.cells #[.pointer none,.slice none 0 0] 176)).heap[w3.heap.size]? =some (.cells #[.pointer none,.slice none 0 0] 176 (0,0)):=by simp only[World.alloc];exact Array.getElem?_push_size
   have OE:Hid _:=qau (w3.alloc (.cells #[.pointer none,.slice none 0 0] 176)) w3.heap.size ⟨(Lib.decDigits n).toArray⟩ hbd hsl
   have uL:Hid (G w3 (w3.alloc (.cells #[.pointer none,.slice none 0 0] 176))):=(G.refl w3).alloc _
   clear hbd hsl
   subst hS
   rw[rounds_succ]
   go_wp2_with fail
   refine Calls.mono (P:=Tryz.prog) OE.out ?_
   intro e w4 hs
   obtain⟨⟨v4,rfl⟩,hib,hbel⟩:=hs
   have xD:Hid (Lib.IsBuilderF 176 5 w3.heap.size w3.heap.size (Lib.byteCells (Lib.decDigits n)) w4):=hib
   have hG4:G w3 w4:=Below.trans uL.out hbel
   have HST:Hid _:=qaF w4 w3.heap.size (Lib.decDigits n) xD.out hG4.size
   clear OE uL hib hbel xD
   go_wp2_with fail
   refine wp_loop_rounds 1 ?_
   rw[rounds_succ]
   go_wp2_with fail
   refine Calls.mono (P:=Tryz.prog) HST.out ?_
   rintro e w5 ⟨rfl,hb5⟩
   have bZ:G w3 w5:=Below.trans hG4 hb5
   go_wp2_with fail
   go_ret
   exact⟨rfl,G.trans g3 bZ⟩
  ·omega
  ·omega
 ·omega
end Go.Proofs.YtemmkninoiclfaaGreatDoor.EN
