/- What is proved here: contracts of package exact's reader of texts: the number that digits tell, over this seat's translation. -/
import Derived.Test.YtfnkkkcojnffdaaGreatDoorC1
import Derived.Test.YtfnkkkcojnffdaaGreatDoorC3
import Derived.Test.YtfnkkkcojnffdaaGreatDoorC22
import Derived.Test.YtfnkkkcojnffdaaGreatDoorC21
import Derived.Test.YtfnkkkcojnffdaaGreatDoorC31
import Derived.Test.YtfnkkkcojnffdaaGreatDoorC18
import Derived.Test.YtfnkkkcojnffdaaGreatDoorC28
import Derived.Lib.AtoiErrMem
namespace Go.Proofs.YtfnkkkcojnffdaaGreatDoor.EN
open Go.ChangeShapes Go.WideShapes Go.ChangeAt Go.RowKit
theorem G.below {w A:World} (h:Below w.heap.size w A):G w A:=h
theorem Tx.part {s:ByteArray} {l:List UInt8} (h:Tx s l) (a b:Nat):Tx (s.extract a b) ((l.drop a).take (b-a)):=by
 subst h;show (s.extract a b).data.toList=_;rw[ByteArray.data_extract,Array.toList_extract]
theorem ow {l:List UInt8} (h:Digs l) (n:Nat):Digs (l.take n):=fun c A=>h c (dE A)
theorem nI:∀ (l:List UInt8) (a m:Nat),Digs l→a<10^m→m+l.length≤19→Lib.parseUintM (2^64-1) a l= .ok (dv a l)
 |[],_,_,_,_,_=>rfl
 |c::r,a,m,hd,ha,hl=>by
  have h1:=isDig_iff.1 (hd c (bS ..));have h2:10^(m+1)≤10^19:=ak dT (by simp only[aK] at hl;omega);have h3:10^(m+1)=10^m*10:=bF ..;have A:=nI r (10*a+(c.toNat-48)) (m+1) (fun x B=>hd x (dF _ B)) dT (by simp only[aK] at hl;omega);unfold Lib.parseUintM;rw[if_pos h1,if_neg dT,if_neg dT,show a*10+(c.toNat-48)=10*a+(c.toNat-48) from by omega];exact A
theorem q23 {l:List UInt8} (B:Digs l) (A:l≠[]) (C:l.length≤19):Lib.parseUintB 64 l= .ok (dv 0 l):=by
 unfold Lib.parseUintB;rw[if_neg A];exact nI l 0 0 B ey dT
theorem lL (w:World) (s:ByteArray) (l:List UInt8) (A:Tx s l) (D:Digs l) (C:l≠[]) (E:l.length≤19):
  Calls Tryz.prog 148 #[.string s,.int .i64 10,.int .i64 64] w fun e B=>e= .returned (.tuple #[.int .u64 (dv 0 l:Nat),.nilIface])∧G w B:=by
 have F:=A.size;refine(Tryz.strconv_ParseUint_10_at64_ok s dT (dv 0 l) (by rw[show s.data.toList=l from A];exact q23 D C E) w).mono ?_;rintro e B ⟨rfl,h|h⟩
 ·subst h;exact⟨rfl,af _⟩
 ·subst h;exact⟨rfl,G.below (Lib.bytesWorld_below ..)⟩
/-- The length of a text. -/
def q1i:Value→Nat
 | .string s=>s.size
 |_=>0
/-- What stands between the rounds: the digits that were read, and those to come. -/
def oX (l:List UInt8) (w:World) (A va:Value) (wr:World):Prop:=
 ∃ (c r:List UInt8) (s:ByteArray),l=c++r∧A= .string s∧Tx s r∧Num wr va (dv 0 c)∧(c=[]∨r.length%19=0)∧G w wr
set_option maxRecDepth 10000 in
theorem nH (w:World) (s:ByteArray) (l:List UInt8) (hs:Tx s l) (hd:Digs l) (hl:l.length≤2000):
  Calls Tryz.prog 90 #[.string s] w (ef w (dv 0 l)):=by
 obtain⟨K,hK⟩:∃ K:Nat,K=125:=⟨_,rfl⟩;have Y:Hid (oX l w (.string s) (.slice none 0 0) w):=⟨[],l,s,rfl,rfl,hs,⟨[],⟨fb,Or.inl ⟨rfl,_,_,rfl⟩⟩,eQ,rfl⟩,Or.inl rfl,af _⟩;have HD:Hid (Digs l):=hd;have HL:Hid (l.length≤2000):=hl;clear hs hd hl;go_enter Tryz.func90,Tryz.ntmps90;go_wp2_with fail
 go_loopw [0,3] (fun vd va wr=>oX l w vd va wr) (fun vd _ _=>q1i vd)
 case atStart=>exact Y.out
 case round=>
  clear Y;obtain⟨c,r,sr,B,rfl,I,hn,hm,hG⟩:=hrel;have U:=I.size;by_cases h0:r=[]
  ·subst h0;have h1:sr.size=0:=U;rw[bZ] at B;subst B;clear I hm U;go_wp2_with fail;go_ret;exact⟨_,rfl,hG,hn⟩
  ·obtain⟨m,D⟩:∃ m,r.length=m+1:=⟨r.length-1,by
    have:r.length≠0:=fun h=>h0 (aC h);omega⟩
   rw[D] at U;have bn:c.length+(m+1)≤2000:=by have:=HL.out;rw[B,ag,D] at this;exact this
   have t1:decide ((0:Int)<((m:Int)+1))=true:=decide_eq_true dT;have bq:m%19<19:=aU _ dT;have y:(m+1-(m%19+1))%19=0:=by omega
   have bv:m%19≤m:=Nat.mod_le ..;have C:r.take (m%19+1)++r.drop (m%19+1)=r:=List.take_append_drop ..;have o:Digs r:=fun x hx=>HD.out x (by rw[B];exact cY _ hx);have k:Digs c:=fun x hx=>HD.out x (by rw[B];exact ck _ hx);have J:(r.take (m%19+1)).length=m%19+1:=by rw[aR,D];omega
   have R:(r.drop (m%19+1)).length=m+1-(m%19+1):=by rw[bO,D]
   have E:Tx (sr.extract 0 (m%19+1)) (r.take (m%19+1)):=I.part 0 (m%19+1);have F:Tx (sr.extract (m%19+1) (m+1)) (r.drop (m%19+1)):=by
    have h:=I.part (m%19+1) (m+1);rw[aw (by rw[R];omega)] at h;exact h
   have S:Digs (r.take (m%19+1)):=ow o _;have HP:Hid (∀ w1,_):=fun w1=>lL w1 (sr.extract 0 (m%19+1)) (r.take (m%19+1)) E S (fun h=>by rw[h] at J;exact absurd J eO) dT;have M:dv 0 (r.take (m%19+1))<2^64:=by
    have h1:=pI _ S;have h2:10^(r.take (m%19+1)).length≤10^19:=ak dT dT;omega
   have j:dv 0 c<2^(64*K):=dv_bound dT k dT;have L:dv 0 c*10000000000000000000+dv 0 (r.take (m%19+1))=dv 0 (c++r.take (m%19+1)):=by
    rw[dv_app,kn _ (dv 0 c),J];rcases hm with rfl|hm
    ·show 0*_+_=0*_+_;rw[bJ,bJ]
    ·have:m%19+1=19:=by omega
     rw[this]
   have HV:Hid (dv 0 c*10000000000000000000+dv 0 (r.take (m%19+1))=dv 0 (c++r.take (m%19+1))):=L;have bl:Hid (Tx (sr.extract (m%19+1) (m+1)) (r.drop (m%19+1))):=F;have bi:Hid (l=(c++r.take (m%19+1))++r.drop (m%19+1)):=by
    show l=_;rw[cM,C];exact B
   have ap:Hid ((r.drop (m%19+1)).length%19=0):=by
    show _%19=0;rw[R];exact y
   have HX:Hid (dv 0 (r.take (m%19+1))<2^64):=M;have HC:Hid (dv 0 c<2^(64*K)):=j;have HN:Hid (Num wr u3 (dv 0 c)):=hn;have bu:Hid (sr.size-(m%19+1)<sr.size):=by show _<_;omega
   clear L F y C o k J R E S M j hn hm B I D h0;generalize dv 0 (r.take (m%19+1))=X at *;generalize dv 0 c=A at *;go_wp2_with fail;refine dS (HP.out _) ?_;rintro e w1 ⟨rfl,g1⟩;clear HP;go_wp2_with fail;have O:(10000000000000000000:Nat)<2^64:=by omega
   have al:=fo (w:=w1) (d:=10000000000000000000) (e:=78) O dT;have ga:=(af w1).alloc (.cells #[.int .u64 ((10000000000000000000:Nat):Int)] 78);have HT:=iz _ u3 _ A 10000000000000000000 K dT ((HN.out.G g1).G ga) al HC.out (ad O (ak dT dT));refine dS HT ?_;rintro e w2 ⟨v2,rfl,g2,am⟩;clear HT al O;go_wp2_with fail;refine dS (iT _ X HX.out) ?_;rintro e w3 ⟨v3,rfl,g3,an⟩;have N:=q1H w3 v2 v3 (A*10000000000000000000) X (K+1) dT (am.G g3) an (by
    rw[ax,ah];exact dj HC.out dT) (ad HX.out (ak dT dT))
   rw[HV.out] at N;have W:=hi9 N;clear am an N;have Z:=aa (aa (aa g1 ga) g2) g3;clear g1 ga g2 g3;go_wp2_with fail;refine dS W.out ?_;rintro e w4 ⟨v4,rfl,g4,ao⟩;have i:=aa (aa hG Z) g4;have HS:Hid (oX l w (.string (sr.extract (m%19+1) (m+1))) v4 w4):=⟨_,_,_,bi.out,rfl,bl.out,ao,Or.inr ap.out,i⟩;clear ao i g4 Z W hG;go_wp2_with fail
   go_round
   case rel=>exact HS.out
   case measure=>simp [q1i];omega
end Go.Proofs.YtfnkkkcojnffdaaGreatDoor.EN
