/- What is proved here: plain facts on whole numbers written in words of 64 bits, the least first (no program), and on rows of such words in memory.
What is proved here: contracts of package exact, rows of words of 64 bits: trim, word, one, over this seat's translation.
What is proved here: plain facts on whole numbers written in words of 32 bits, the least first (no program), and on rows of such words in memory.
What is proved here: texts of fractions by their pieces, no program. -/
import Derived.Test.YtfnkkkcojnffdaaGreatDoorC1
import Derived.Test.YtfnkkkcojnffdaaGreatDoorC3
import Derived.Deep.OwnRows
namespace Go.Proofs.YtfnkkkcojnffdaaGreatDoor.EN
open Go.RowKit
def val:List Nat→Nat
 |[]=>0
 |d::l=>d+2^64*val l
def okw (l:List Nat):Prop:=∀ d∈l,d<2^64
def canon (l:List Nat):Prop:=okw l∧∀ h:l≠[],l.getLast h≠0
theorem val_append (l m:List Nat):val (l++m)=val l+2^(64*l.length)*val m:=by
 induction l with
 |nil=>simp [val]
 |cons d l A=>
  simp only[List.cons_append,val,A,aK];rw[ax,← aj,← ah,show 64*(l.length+1)=64+64*l.length from by omega];omega
theorem fb:okw []:=fun _ h=>by cases h
theorem okw_cons {d:Nat} {l:List Nat}:okw (d::l)↔d<2^64∧okw l:=by
 unfold okw;simp
theorem okw_append {l m:List Nat}:okw (l++m)↔okw l∧okw m:=by
 unfold okw;constructor
 ·intro h;exact⟨fun d A=>h d (ck _ A),fun d A=>h d (cY _ A)⟩
 ·rintro⟨h1,h2⟩ d A;rcases cL.1 A with h|h
  ·exact h1 d h
  ·exact h2 d h
theorem fq {l:List Nat} (h:okw l) (n:Nat):okw (l.take n):=fun d A=>h d (dE A)
theorem gz {l:List Nat} (h:okw l) (n:Nat):okw (l.drop n):=fun d A=>h d (List.mem_of_mem_drop A)
theorem dW {l:List Nat} (h:okw l) (i:Nat):l.getD i 0<2^64:=by
 by_cases hi:i<l.length
 ·rw[ab,aB hi];exact h _ (List.getElem_mem hi)
 ·rw[ab,bj dT];simp
theorem jc {l:List Nat} (h:okw l) (i x:Nat) (B:x<2^64):okw (l.set i x):=fun d A=>by
 rcases cI A with h1|h1
 ·exact h d h1
 ·rw[h1];exact B
theorem eo {l:List Nat} (h:okw l):val l<2^(64*l.length):=by
 induction l with
 |nil=>simp [val]
 |cons d l A=>
  obtain⟨h1,h2⟩:=okw_cons.1 h;have h3:=A h2;simp only[val,aK];rw[show 64*(l.length+1)=64+64*l.length from by omega,ah];have:2^64*(val l+1)≤2^64*2^(64*l.length):=au _ h3;rw[ax] at this;omega
theorem fC {l:List Nat} {k:Nat} (h:k<l.length):l.take (k+1)=l.take k++[l.getD k 0]:=by
 rw[List.take_succ_eq_append_getElem h]
 congr 2
 rw[ab,aB h];rfl
theorem fi (d:Nat):val [d]=d:=by simp [val]
theorem eI {l:List Nat} {k:Nat} (h:k<l.length):val (l.take (k+1))=val (l.take k)+2^(64*k)*l.getD k 0:=by
 rw[fC h,val_append,fi,aR,bE dT]
theorem ed (l:List Nat) (k:Nat):val (l.take (k+1))=val (l.take k)+2^(64*k)*l.getD k 0:=by
 by_cases h:k<l.length
 ·exact eI h
 ·rw[aw dT,aw dT,ab,bj dT];simp
theorem ez (l:List Nat) (k:Nat) (h:k≤l.length):val l=val (l.take k)+2^(64*k)*val (l.drop k):=by
 have h1:=val_append (l.take k) (l.drop k);rw[List.take_append_drop,aR,bE h] at h1;exact h1
theorem eT {l:List Nat} {k x:Nat}:(l.set k x).take k=l.take k:=by
 rw[List.take_set];exact List.set_eq_of_length_le (by simp;omega)
theorem eh {l:List Nat} {k x:Nat} (h:k<l.length):(l.set k x).getD k 0=x:=by
 rw[ab];simp [h]
theorem en {l:List Nat} {k x:Nat} (h:k<l.length):val ((l.set k x).take (k+1))=val (l.take k)+2^(64*k)*x:=by
 rw[eI (by simpa using h),eT,eh h]
theorem eN {l:List Nat} (h:canon l) (A:l≠[]):2^(64*(l.length-1))≤val l:=by
 have h1:=h.2 A;have h2:=List.dropLast_concat_getLast A;have h3:=val_append l.dropLast [l.getLast A];rw[h2,fi,List.length_dropLast] at h3;have B:2^(64*(l.length-1))*1≤2^(64*(l.length-1))*l.getLast A:=au _ dT;omega
theorem eQ:canon []:=⟨fb,fun h=>absurd rfl h⟩
theorem eX {l:List Nat} (h:canon l):val l=0↔l=[]:=by
 constructor
 ·intro B;by_cases A:l=[]
  ·exact A
  ·have:=eN h A;have:=ae (64*(l.length-1));omega
 ·rintro rfl;rfl
theorem eE {l m:List Nat} (A:canon l) (B:canon m) (h:l.length<m.length):val l<val m:=by
 have h1:=eo A.1;have C:m≠[]:=by intro e;rw[e] at h;simp at h
 have h2:=eN B C;have h3:2^(64*l.length)≤2^(64*(m.length-1)):=ak dT dT;omega
/-- A canonical row is short where its number is small. -/
theorem dX {l:List Nat} (h:canon l) {k:Nat} (hv:val l<2^(64*k)):l.length≤k:=by
 by_cases A:l=[]
 ·rw[A];simp
 ·have h1:=eN h A;have h2:2^(64*(l.length-1))<2^(64*k):=by omega
  have h3:=(aY (by omega:1<2)).1 h2;have:l.length≠0:=fun e=>A (aC e);omega
theorem eg {l:List Nat} {k:Nat} (h:k<l.length):l.drop k=l.getD k 0::l.drop (k+1):=by
 rw[dN h]
 congr 1
 rw[ab,aB h];rfl
theorem ew {l:List Nat} {k:Nat} (h:k<l.length):val l=val (l.take k)+2^(64*k)*(l.getD k 0+2^64*val (l.drop (k+1))):=by
 rw[ez l k dT,eg h];rfl
theorem et {l:List Nat} (h:okw l) (k:Nat) (A:k≤l.length):val (l.take k)<2^(64*k):=by
 have:=eo (fq h k)
 rwa[aR,bE A] at this
/-- The first word from above that parts decides. -/
theorem iA {l m:List Nat} {k:Nat} (C:okw l) (h1:k<l.length) (h2:k<m.length) (B:val (l.drop (k+1))=val (m.drop (k+1))) (D:l.getD k 0<m.getD k 0):val l<val m:=by
 rw[ew h1,ew h2,B];have h3:=et C k dT;have A:2^(64*k)*(l.getD k 0+2^64*val (m.drop (k+1))+1)≤2^(64*k)*(m.getD k 0+2^64*val (m.drop (k+1))):=au _ dT;rw[ax,bw] at A;omega
/-! Rows in memory. -/
/-- From place o of block b on lie the words of l. -/
def Row (w:World) (b o:Nat) (l:List Nat):Prop:=∀ i,i<l.length→w.cell? ⟨b,o+i,none⟩=some (.int .u64 (l.getD i 0:Nat))
/-- v is a slice of just these words. -/
def Sl (w:World) (v:Value) (l:List Nat):Prop:=
 okw l∧((l=[]∧∃ a c,v= .slice a 0 c)∨∃ b o c,v= .slice (some ⟨b,o,none⟩) l.length c∧l.length≤c∧b<w.heap.size∧Row w b o l)
/-- v is the canonical slice of n. -/
def Num (w:World) (v:Value) (n:Nat):Prop:=∃ l,Sl w v l∧canon l∧val l=n
/-- A row of our own: block b, from its beginning, may be written. -/
def Own (w:World) (b:Nat) (l:List Nat):Prop:=okw l∧b<w.heap.size∧Row w b 0 l∧∀ i,i<l.length→w.frozen? ⟨b,i,none⟩=false
/-- A call hands back the canonical slice of n; nothing that was there has turned. -/
def ef (w:World) (n:Nat) (e:Ending) (A:World):Prop:=∃ v,e= .returned v∧G w A∧Num A v n
theorem Row.G {w A:World} {b o:Nat} {l:List Nat} (h:Row w b o l) (hb:b<w.heap.size) (g:G w A):Row A b o l:=fun i hi=>g.cell hb (h i hi)
theorem Sl.G {w A:World} {v:Value} {l:List Nat} (h:Sl w v l) (g:G w A):Sl A v l:=by
 obtain⟨h1,h2⟩:=h;refine⟨h1,?_⟩;rcases h2 with h2|⟨b,o,c,e,B,hb,C⟩
 ·exact Or.inl h2
 ·exact Or.inr ⟨b,o,c,e,B,ad hb g.size,C.G hb g⟩
theorem Num.G {w A:World} {v:Value} {n:Nat} (h:Num w v n) (g:G w A):Num A v n:=by
 obtain⟨l,h1,h2⟩:=h;exact⟨l,h1.G g,h2⟩
theorem Own.sl {w:World} {b:Nat} {l:List Nat} (h:Own w b l) (c:Nat) (A:l.length≤c):Sl w (.slice (some ⟨b,0,none⟩) l.length c) l:=
 ⟨h.1,Or.inr ⟨b,0,c,rfl,A,h.2.1,h.2.2.1⟩⟩
/-- A store into a row of our own. -/
theorem Own.set {w:World} {b:Nat} {l:List Nat} (h:Own w b l) (i x:Nat) (hi:i<l.length) (E:x<2^64):
  Own (w.setCell ⟨b,i,none⟩ (.int .u64 (x:Int))) b (l.set i x):=by
 obtain⟨h1,h2,h3,D⟩:=h;refine⟨jc h1 i x E,by simpa using h2,fun j B=> ?_,fun j B=>by rw[World.frozen?_setCell];exact D j (by simpa using B)⟩;have C:j<l.length:=by simpa using B
 have A:=h3 j C;rw[az] at A ⊢;by_cases e:i=j
 ·subst e;rw[World.cell?_setCell_same _ _ _ A,eh hi]
 ·rw[World.cell?_setCell_other _ _ _ _ (by intro h;apply e;injection h),A]
  congr 3
  rw[ab,ab,aS e]
theorem Own.frozen {w:World} {b:Nat} {l:List Nat} (h:Own w b l) {i:Nat} (hi:i<l.length):w.frozen? ⟨b,i,none⟩=false:=h.2.2.2 i hi
theorem Own.cell {w:World} {b:Nat} {l:List Nat} (h:Own w b l) {i:Nat} (hi:i<l.length):w.cell? ⟨b,i,none⟩=some (.int .u64 (l.getD i 0:Nat)):=by
 have:=h.2.2.1 i hi
 rwa[az] at this
/-- Rows of others stand still under a store into ours. -/
theorem Row.set {w:World} {b o c i:Nat} {l:List Nat} {u:Value} (h:Row w b o l) (hb:b≠c):Row (w.setCell ⟨c,i,none⟩ u) b o l:=fun j B=>by
 rw[World.cell?_setCell_other _ _ _ _ (by intro e;apply hb;injection e with A;exact A.symm)];exact h j B
theorem Own.grow {w A:World} {b:Nat} {l:List Nat} (h:Own w b l) (g:G w A):Own A b l:=
 ⟨h.1,ad h.2.1 g.size,h.2.2.1.G h.2.1 g,fun i hi=>g.frozen h.2.1 (h.2.2.2 i hi)⟩
/-- A row that 'make' lays. -/
theorem eA (w:World) (n:Nat) (e:TypeId):Own (w.alloc (.cells (madeCells #[.int .u64 0] n) e)) w.heap.size (List.replicate n 0):=by
 refine⟨fun d B=>by rw[List.eq_of_mem_replicate B];omega,by simp,fun i hi=> ?_,fun i hi=>World.frozen?_alloc_at _ _ _ _ rfl⟩;have A:i<n:=by simpa using hi
 rw[az,World.cell?_alloc_at _ _ _ _ rfl];have D:=toList_madeCells_one (.int .u64 0) n;have C:(madeCells #[Value.int .u64 0] n)[i]? =some (.int .u64 0):=by
  rw[← Array.getElem?_toList,D];simp [A]
 rw[C]
 congr 2
 rw[ab];simp [A]
end Go.Proofs.YtfnkkkcojnffdaaGreatDoor.EN
namespace Go.Proofs.YtfnkkkcojnffdaaGreatDoor.EN
open Go.ChangeShapes Go.WideShapes Go.ChangeAt Go.RowKit
theorem Sl.cases {w:World} {v:Value} {l:List Nat} (h:Sl w v l):
  (l=[]∧∃ a c,v= .slice a 0 c)∨(l≠[]∧∃ b o c,v= .slice (some ⟨b,o,none⟩) l.length c∧l.length≤c∧b<w.heap.size∧Row w b o l):=by
 obtain⟨-,h|⟨b,o,c,e,B,hb,C⟩⟩:=h
 ·exact Or.inl h
 ·by_cases A:l=[]
  ·subst A;exact Or.inl ⟨rfl,_,c,e⟩
  ·exact Or.inr ⟨A,b,o,c,e,B,hb,C⟩
theorem gP {l:List Nat} (h:okw l) (k:Nat) (E:k<l.length) (D:l.getD k 0≠0):canon (l.take (k+1)):=by
 refine⟨fq h _,fun C=> ?_⟩;have e:=fC E;have:(l.take (k+1)).getLast C=l.getD k 0:=by
  have:∀ (m:List Nat) (B:m≠[]),m=l.take k++[l.getD k 0]→m.getLast B=l.getD k 0:=by
   intro m B A;subst A;simp
  exact this _ C e
 rw[this];exact D
theorem trim_c (w:World) (v:Value) (l:List Nat) (K:Sl w v l) (m:l.length≤1048576):
  Calls Tryz.prog 122 #[v] w (ef w (val l)):=by
 have F:=K.1;rcases Sl.cases K with ⟨rfl,a,c,rfl⟩|⟨Y,b,o,c,rfl,Z,hb,S⟩
 ·cases a
  all_goals
   go_enter Tryz.func122,Tryz.ntmps122;go_wp2;refine wp_loop_rounds 1 ?_;rw[rounds_succ];go_wp2;go_ret;exact⟨_,rfl,af _,[],⟨fb,Or.inl ⟨rfl,_,_,rfl⟩⟩,eQ,rfl⟩
 ·generalize R:l.length=n at *;have N:=hi9 S;have E:=hi9 R;clear S R K;go_enter Tryz.func122,Tryz.ntmps122;go_wp2
  go_loop [3] (fun M=>∃ k:Nat,k≤n∧M= .int .i64 k∧val (l.take k)=val l) (fun M=>(intOf M).toNat)
  case atStart=>exact⟨n,ay _,rfl,by rw[← E.out,List.take_length]⟩
  case round=>
   obtain⟨k,j,rfl,hv⟩:=hrel;have I:=hi9 hv;clear hv;cases k with
   |zero=>
    go_wp2;go_ret;have L:val l=0:=by rw[← I.out];simp [val]
    exact⟨_,rfl,af _,[],⟨fb,Or.inl ⟨rfl,_,_,rfl⟩⟩,eQ,by rw[L];rfl⟩
   |succ k=>
    have C:=N.out k (by rw[E.out];omega);have D:k<l.length:=by rw[E.out];omega
    have B:=eI D;have A:=gP F k D;generalize l.getD k 0=d at C B A;by_cases O:d=0
    ·subst O;have W:=hi9 B;clear B A D;go_wp2
     go_round
     case rel=>exact⟨k,by omega,by go_num,by rw[← I.out,W.out];simp⟩
     case measure=>simp [intOf]
    ·have X:((d:Int)==0)=false:=by simp;omega
     have U:=hi9 A;clear B A;go_wp2;go_ret;refine⟨_,rfl,af _,l.take (k+1),⟨fq F _,Or.inr ⟨b,o,c,?_,?_,hb,fun i hi=> ?_⟩⟩,U.out O,I.out⟩
     ·rw[aR,E.out,bE dT];simp
     ·rw[aR];omega
     ·have J:i<k+1:=by rw[aR] at hi;omega
      have:=N.out i (by rw[E.out];omega);rw[this]
      congr 3
      rw[ab,ab,dP J]
/-- The cells of a slice, in a form that serves the empty one too. -/
theorem ei {w:World} {v:Value} {l:List Nat} (h:Sl w v l):∃ a c,v= .slice a l.length c∧l.length≤c∧∀ i,i<l.length→∃ b o,a=some ⟨b,o,none⟩∧b<w.heap.size∧w.cell? ⟨b,o+i,none⟩=some (.int .u64 (l.getD i 0:Nat)):=by
 rcases Sl.cases h with ⟨rfl,a,c,rfl⟩|⟨B,b,o,c,rfl,A,hb,C⟩
 ·exact⟨a,c,rfl,bo _,fun i hi=>by simp at hi⟩
 ·exact⟨_,c,rfl,A,fun i hi=>⟨b,o,rfl,hb,C i hi⟩⟩
theorem jH (w:World) (d:Nat) (e:TypeId) (B:d<2^64):
  Sl (w.alloc (.cells #[.int .u64 (d:Int)] e)) (.slice (some ⟨w.heap.size,0,none⟩) 1 1) [d]:=by
 refine⟨fun x A=> ?_,Or.inr ⟨w.heap.size,0,1,rfl,ay _,by simp,fun i hi=> ?_⟩⟩
 ·simp at A;subst A;exact B
 ·rw[az,World.cell?_alloc_at _ _ _ _ rfl];have:i=0:=by simp at hi;omega
  subst this;rfl
theorem iT (w:World) (x:Nat) (D:x<2^64):
  Calls Tryz.prog 110 #[.int .u64 x] w (ef w x):=by
 have C:Hid _:=fun w=>trim_c _ _ _ (jH w x 78 D) eO;rw[fi] at C;go_enter Tryz.func110,Tryz.ntmps110;go_wp2_with fail;refine(C.out w).mono ?_;rintro e F ⟨E,rfl,A,B⟩;go_wp2;go_ret;exact⟨E,rfl,aa ((af _).alloc _) A,B⟩
theorem q20 (w:World) (v:Value) (n K:Nat) (hv:Num w v n) (F:n<2^(64*K)):
  Calls Tryz.prog 109 #[v] w fun e N=>e= .returned (.bool (decide (n=1)))∧G w N:=by
 obtain⟨l,D,B,rfl⟩:=hv;have E:=dX B F;obtain⟨p,c,rfl,J,I⟩:=ei D;by_cases h1:l.length=1
 ·obtain⟨d,rfl⟩:∃ d,l=[d]:=by
   match l,h1 with
   |[d],_=>exact⟨d,rfl⟩
  obtain⟨b,o,rfl,hb,A⟩:=I 0 eO;rw[aP] at A;have M:([d]:List Nat).getD 0 0=d:=rfl;rw[M] at A;rw[fi];have t1:((([d]:List Nat).length:Nat):Int)=1:=rfl;have t2:((d:Int)==1)=decide (d=1):=by
   by_cases h:d=1
   ·subst h;rfl
   ·rw[decide_eq_false h];simp;omega
  clear I E F J D B h1;go_enter Tryz.func109,Tryz.ntmps109;go_wp2;go_ret;exact⟨rfl,af _⟩
 ·have L:¬ val l=1:=by
   intro C;have h2:l.length≤1:=dX B (k:=1) (by rw[C];exact Nat.one_lt_two_pow dT);have h3:l=[]:=aC dT;rw[h3] at C;cases C
  rw[decide_eq_false L];have t1:((l.length:Int)==1)=false:=by simp;omega
  generalize l.length=n at *;clear I J D B L F h1;go_enter Tryz.func109,Tryz.ntmps109;go_wp2;go_ret;exact⟨rfl,af _⟩
end Go.Proofs.YtfnkkkcojnffdaaGreatDoor.EN
namespace Go.Proofs.YtfnkkkcojnffdaaGreatDoor.BN
open Go.RowKit
def val:List Nat→Nat
 |[]=>0
 |d::l=>d+2^32*val l
def okw (l:List Nat):Prop:=∀ d∈l,d<2^32
def canon (l:List Nat):Prop:=okw l∧∀ h:l≠[],l.getLast h≠0
theorem val_append (l m:List Nat):val (l++m)=val l+2^(32*l.length)*val m:=by
 induction l with
 |nil=>simp [val]
 |cons d l A=>
  simp only[List.cons_append,val,A,aK];rw[ax,← aj,← ah,show 32*(l.length+1)=32+32*l.length from by omega];omega
theorem fb:okw []:=fun _ h=>by cases h
theorem okw_cons {d:Nat} {l:List Nat}:okw (d::l)↔d<2^32∧okw l:=by
 unfold okw;simp
theorem okw_append {l m:List Nat}:okw (l++m)↔okw l∧okw m:=by
 unfold okw;constructor
 ·intro h;exact⟨fun d A=>h d (ck _ A),fun d A=>h d (cY _ A)⟩
 ·rintro⟨h1,h2⟩ d A;rcases cL.1 A with h|h
  ·exact h1 d h
  ·exact h2 d h
theorem fq {l:List Nat} (h:okw l) (n:Nat):okw (l.take n):=fun d A=>h d (dE A)
theorem gz {l:List Nat} (h:okw l) (n:Nat):okw (l.drop n):=fun d A=>h d (List.mem_of_mem_drop A)
theorem dW {l:List Nat} (h:okw l) (i:Nat):l.getD i 0<2^32:=by
 by_cases hi:i<l.length
 ·rw[ab,aB hi];exact h _ (List.getElem_mem hi)
 ·rw[ab,bj dT];simp
theorem jc {l:List Nat} (h:okw l) (i x:Nat) (B:x<2^32):okw (l.set i x):=fun d A=>by
 rcases cI A with h1|h1
 ·exact h d h1
 ·rw[h1];exact B
theorem eo {l:List Nat} (h:okw l):val l<2^(32*l.length):=by
 induction l with
 |nil=>simp [val]
 |cons d l A=>
  obtain⟨h1,h2⟩:=okw_cons.1 h;have h3:=A h2;simp only[val,aK];rw[show 32*(l.length+1)=32+32*l.length from by omega,ah];have:2^32*(val l+1)≤2^32*2^(32*l.length):=au _ h3;rw[ax] at this;omega
theorem fC {l:List Nat} {k:Nat} (h:k<l.length):l.take (k+1)=l.take k++[l.getD k 0]:=by
 rw[List.take_succ_eq_append_getElem h]
 congr 2
 rw[ab,aB h];rfl
theorem fi (d:Nat):val [d]=d:=by simp [val]
theorem eI {l:List Nat} {k:Nat} (h:k<l.length):val (l.take (k+1))=val (l.take k)+2^(32*k)*l.getD k 0:=by
 rw[fC h,val_append,fi,aR,bE dT]
theorem ed (l:List Nat) (k:Nat):val (l.take (k+1))=val (l.take k)+2^(32*k)*l.getD k 0:=by
 by_cases h:k<l.length
 ·exact eI h
 ·rw[aw dT,aw dT,ab,bj dT];simp
theorem ez (l:List Nat) (k:Nat) (h:k≤l.length):val l=val (l.take k)+2^(32*k)*val (l.drop k):=by
 have h1:=val_append (l.take k) (l.drop k);rw[List.take_append_drop,aR,bE h] at h1;exact h1
theorem eT {l:List Nat} {k x:Nat}:(l.set k x).take k=l.take k:=by
 rw[List.take_set];exact List.set_eq_of_length_le (by simp;omega)
theorem eh {l:List Nat} {k x:Nat} (h:k<l.length):(l.set k x).getD k 0=x:=by
 rw[ab];simp [h]
theorem en {l:List Nat} {k x:Nat} (h:k<l.length):val ((l.set k x).take (k+1))=val (l.take k)+2^(32*k)*x:=by
 rw[eI (by simpa using h),eT,eh h]
theorem eN {l:List Nat} (h:canon l) (A:l≠[]):2^(32*(l.length-1))≤val l:=by
 have h1:=h.2 A;have h2:=List.dropLast_concat_getLast A;have h3:=val_append l.dropLast [l.getLast A];rw[h2,fi,List.length_dropLast] at h3;have B:2^(32*(l.length-1))*1≤2^(32*(l.length-1))*l.getLast A:=au _ dT;omega
theorem eQ:canon []:=⟨fb,fun h=>absurd rfl h⟩
theorem eX {l:List Nat} (h:canon l):val l=0↔l=[]:=by
 constructor
 ·intro B;by_cases A:l=[]
  ·exact A
  ·have:=eN h A;have:=ae (32*(l.length-1));omega
 ·rintro rfl;rfl
theorem eE {l m:List Nat} (A:canon l) (B:canon m) (h:l.length<m.length):val l<val m:=by
 have h1:=eo A.1;have C:m≠[]:=by intro e;rw[e] at h;simp at h
 have h2:=eN B C;have h3:2^(32*l.length)≤2^(32*(m.length-1)):=ak dT dT;omega
/-- A canonical row is short where its number is small. -/
theorem dX {l:List Nat} (h:canon l) {k:Nat} (hv:val l<2^(32*k)):l.length≤k:=by
 by_cases A:l=[]
 ·rw[A];simp
 ·have h1:=eN h A;have h2:2^(32*(l.length-1))<2^(32*k):=by omega
  have h3:=(aY (by omega:1<2)).1 h2;have:l.length≠0:=fun e=>A (aC e);omega
theorem eg {l:List Nat} {k:Nat} (h:k<l.length):l.drop k=l.getD k 0::l.drop (k+1):=by
 rw[dN h]
 congr 1
 rw[ab,aB h];rfl
theorem ew {l:List Nat} {k:Nat} (h:k<l.length):val l=val (l.take k)+2^(32*k)*(l.getD k 0+2^32*val (l.drop (k+1))):=by
 rw[ez l k dT,eg h];rfl
theorem et {l:List Nat} (h:okw l) (k:Nat) (A:k≤l.length):val (l.take k)<2^(32*k):=by
 have:=eo (fq h k)
 rwa[aR,bE A] at this
/-- The first word from above that parts decides. -/
theorem iA {l m:List Nat} {k:Nat} (C:okw l) (h1:k<l.length) (h2:k<m.length) (B:val (l.drop (k+1))=val (m.drop (k+1))) (D:l.getD k 0<m.getD k 0):val l<val m:=by
 rw[ew h1,ew h2,B];have h3:=et C k dT;have A:2^(32*k)*(l.getD k 0+2^32*val (m.drop (k+1))+1)≤2^(32*k)*(m.getD k 0+2^32*val (m.drop (k+1))):=au _ dT;rw[ax,bw] at A;omega
/-! Rows in memory. -/
/-- From place o of block b on lie the words of l. -/
def Row (w:World) (b o:Nat) (l:List Nat):Prop:=∀ i,i<l.length→w.cell? ⟨b,o+i,none⟩=some (.int .u32 (l.getD i 0:Nat))
/-- v is a slice of just these words. -/
def Sl (w:World) (v:Value) (l:List Nat):Prop:=
 okw l∧((l=[]∧∃ a c,v= .slice a 0 c)∨∃ b o c,v= .slice (some ⟨b,o,none⟩) l.length c∧l.length≤c∧b<w.heap.size∧Row w b o l)
/-- v is the canonical slice of n. -/
def Num (w:World) (v:Value) (n:Nat):Prop:=∃ l,Sl w v l∧canon l∧val l=n
/-- A row of our own: block b, from its beginning, may be written. -/
def Own (w:World) (b:Nat) (l:List Nat):Prop:=okw l∧b<w.heap.size∧Row w b 0 l∧∀ i,i<l.length→w.frozen? ⟨b,i,none⟩=false
/-- A call hands back the canonical slice of n; nothing that was there has turned. -/
def ef (w:World) (n:Nat) (e:Ending) (A:World):Prop:=∃ v,e= .returned v∧G w A∧Num A v n
theorem Row.G {w A:World} {b o:Nat} {l:List Nat} (h:Row w b o l) (hb:b<w.heap.size) (g:G w A):Row A b o l:=fun i hi=>g.cell hb (h i hi)
theorem Sl.G {w A:World} {v:Value} {l:List Nat} (h:Sl w v l) (g:G w A):Sl A v l:=by
 obtain⟨h1,h2⟩:=h;refine⟨h1,?_⟩;rcases h2 with h2|⟨b,o,c,e,B,hb,C⟩
 ·exact Or.inl h2
 ·exact Or.inr ⟨b,o,c,e,B,ad hb g.size,C.G hb g⟩
theorem Num.G {w A:World} {v:Value} {n:Nat} (h:Num w v n) (g:G w A):Num A v n:=by
 obtain⟨l,h1,h2⟩:=h;exact⟨l,h1.G g,h2⟩
theorem Own.sl {w:World} {b:Nat} {l:List Nat} (h:Own w b l) (c:Nat) (A:l.length≤c):Sl w (.slice (some ⟨b,0,none⟩) l.length c) l:=
 ⟨h.1,Or.inr ⟨b,0,c,rfl,A,h.2.1,h.2.2.1⟩⟩
/-- A store into a row of our own. -/
theorem Own.set {w:World} {b:Nat} {l:List Nat} (h:Own w b l) (i x:Nat) (hi:i<l.length) (E:x<2^32):
  Own (w.setCell ⟨b,i,none⟩ (.int .u32 (x:Int))) b (l.set i x):=by
 obtain⟨h1,h2,h3,D⟩:=h;refine⟨jc h1 i x E,by simpa using h2,fun j B=> ?_,fun j B=>by rw[World.frozen?_setCell];exact D j (by simpa using B)⟩;have C:j<l.length:=by simpa using B
 have A:=h3 j C;rw[az] at A ⊢;by_cases e:i=j
 ·subst e;rw[World.cell?_setCell_same _ _ _ A,eh hi]
 ·rw[World.cell?_setCell_other _ _ _ _ (by intro h;apply e;injection h),A]
  congr 3
  rw[ab,ab,aS e]
theorem Own.frozen {w:World} {b:Nat} {l:List Nat} (h:Own w b l) {i:Nat} (hi:i<l.length):w.frozen? ⟨b,i,none⟩=false:=h.2.2.2 i hi
theorem Own.cell {w:World} {b:Nat} {l:List Nat} (h:Own w b l) {i:Nat} (hi:i<l.length):w.cell? ⟨b,i,none⟩=some (.int .u32 (l.getD i 0:Nat)):=by
 have:=h.2.2.1 i hi
 rwa[az] at this
/-- Rows of others stand still under a store into ours. -/
theorem Row.set {w:World} {b o c i:Nat} {l:List Nat} {u:Value} (h:Row w b o l) (hb:b≠c):Row (w.setCell ⟨c,i,none⟩ u) b o l:=fun j B=>by
 rw[World.cell?_setCell_other _ _ _ _ (by intro e;apply hb;injection e with A;exact A.symm)];exact h j B
theorem Own.grow {w A:World} {b:Nat} {l:List Nat} (h:Own w b l) (g:G w A):Own A b l:=
 ⟨h.1,ad h.2.1 g.size,h.2.2.1.G h.2.1 g,fun i hi=>g.frozen h.2.1 (h.2.2.2 i hi)⟩
/-- A row that 'make' lays. -/
theorem eA (w:World) (n:Nat) (e:TypeId):Own (w.alloc (.cells (madeCells #[.int .u32 0] n) e)) w.heap.size (List.replicate n 0):=by
 refine⟨fun d B=>by rw[List.eq_of_mem_replicate B];omega,by simp,fun i hi=> ?_,fun i hi=>World.frozen?_alloc_at _ _ _ _ rfl⟩;have A:i<n:=by simpa using hi
 rw[az,World.cell?_alloc_at _ _ _ _ rfl];have D:=toList_madeCells_one (.int .u32 0) n;have C:(madeCells #[Value.int .u32 0] n)[i]? =some (.int .u32 0):=by
  rw[← Array.getElem?_toList,D];simp [A]
 rw[C]
 congr 2
 rw[ab];simp [A]
end Go.Proofs.YtfnkkkcojnffdaaGreatDoor.BN
namespace Go.Proofs.YtfnkkkcojnffdaaGreatDoor.EN
/-- A digit in ten. -/
def gy (c:UInt8):Bool:=decide (48≤c.toNat)&&decide (c.toNat≤57)
theorem isDig_iff {c:UInt8}:gy c=true↔48≤c.toNat∧c.toNat≤57:=by unfold gy;rw[br,decide_eq_true_eq,decide_eq_true_eq]
/-- Digits alone. -/
def Digs (l:List UInt8):Prop:=∀ c∈l,gy c=true
/-- What stands behind digits. -/
def Stop (l:List UInt8):Prop:=∀ c r,l=c::r→gy c=false
/-- The number that digits tell, behind one that was told. -/
def dv (a:Nat):List UInt8→Nat
 |[]=>a
 |c::r=>dv (10*a+(c.toNat-48)) r
theorem dv_app:∀ (l m:List UInt8) (a:Nat),dv a (l++m)=dv (dv a l) m
 |[],_,_=>rfl
 |_::r,m,_=>dv_app r m _
theorem kn:∀ (l:List UInt8) (a:Nat),dv a l=a*10^l.length+dv 0 l
 |[],a=>by show a=a*1+0;omega
 |c::r,a=>by
  show dv (10*a+(c.toNat-48)) r=a*10^(r.length+1)+dv (10*0+(c.toNat-48)) r;rw[kn r (10*a+(c.toNat-48)),kn r (10*0+(c.toNat-48)),bF];generalize 10^r.length=P;generalize c.toNat-48=d;have A:(10*a+d)*P=10*a*P+d*P:=aH ..;have B:(10*0+d)*P=d*P:=by rw[bm,az]
  have C:a*(P*10)=10*a*P:=by rw[aF P 10,← aj,aF a 10]
  rw[A,B,C,bR]
theorem pI:∀ (l:List UInt8),Digs l→dv 0 l<10^l.length
 |[],_=>by show 0<1;omega
 |c::r,h=>by
  have h1:=pI r (fun x A=>h x (dF _ A));have h2:=isDig_iff.1 (h c (bS ..));show dv (10*0+(c.toNat-48)) r<10^(r.length+1);rw[kn,bF];generalize 10^r.length=P at *;have h3:(10*0+(c.toNat-48))*P≤9*P:=aq _ dT;omega
theorem dv_bound {l:List UInt8} {K:Nat} (B:125≤K) (h:Digs l) (C:l.length≤2000):dv 0 l<2^(64*K):=by
 have h1:=pI l h;have h2:(10:Nat)^l.length≤16^l.length:=dI dT _;have h3:(16:Nat)^l.length=2^(4*l.length):=by rw[Nat.pow_mul]
 have A:2^(4*l.length)≤2^(64*K):=ak dT dT;omega
/-- Digits, and what stands behind them. -/
theorem gV:∀ l:List UInt8,∃ t r,l=t++r∧Digs t∧Stop r
 |[]=>⟨[],[],rfl,(fun _ h=>by cases h),(fun _ _ h=>by cases h)⟩
 |c::l=>by
  cases hc:gy c with
  |false=>exact⟨[],c::l,rfl,(fun _ h=>by cases h),fun x r h=>by cases h;exact hc⟩
  |true=>
   obtain⟨t,r,h1,h2,h3⟩:=gV l;refine⟨c::t,r,by rw[h1];rfl,?_,h3⟩;intro x A;rcases bC.1 A with rfl|A
   ·exact hc
   ·exact h2 x A
/-- A sign or none. -/
def Sg (s:List UInt8) (l:List UInt8):Prop:=s=[45]∨(s=[]∧∀ r,l≠45::r)
theorem mU:∀ l:List UInt8,∃ s r,l=s++r∧Sg s r
 |[]=>⟨[],[],rfl,Or.inr ⟨rfl,fun _ h=>by cases h⟩⟩
 |c::l=>by
  by_cases h:c=45
  ·subst h;exact⟨[45],l,rfl,Or.inl rfl⟩
  ·exact⟨[],c::l,rfl,Or.inr ⟨rfl,fun r h2=>by cases h2;exact h rfl⟩⟩
/-- The reader's states. -/
def cls (c:UInt8):Nat:=if c.toNat=45 then 1 else if gy c=true then 2 else if c.toNat=47 then 3 else 4
def stp (s c:Nat):Option Nat:=if s=0∧c=1 then some 1 else if c=2 then (if s≤2 then some 2 else if s≤4 then some 4 else none) else if s=2∧c=3 then some 3 else none
def aut (s:Nat):List UInt8→Nat×Bool
 |[]=>(0,decide (s=2∨s=4))
 |c::r=>match stp s (cls c) with
  |none=>(0,false)
  |some t=>((aut t r).1+1,(aut t r).2)
theorem nk {c:UInt8} (h:gy c=true):cls c=2:=by
 have h2:=isDig_iff.1 h;unfold cls;rw[if_neg dT,if_pos h]
theorem il {c:UInt8} (h:gy c=false):cls c≠2:=by
 unfold cls;split
 ·omega
 ·rw[if_neg (by rw[h];exact Bool.false_ne_true)];split<;>omega
theorem mf {s q:Nat} {c:UInt8} {r:List UInt8} (h:stp s (cls c)=some q):aut s (c::r)=((aut q r).1+1,(aut q r).2):=by
 show (match stp s (cls c) with|none=>_|some t=>_)=_;rw[h]
theorem ic {s q:Nat} (B:∀ c,cls c=2→stp s (cls c)=some q) (A:∀ c,cls c=2→stp q (cls c)=some q):∀ (t r:List UInt8),Digs t→t≠[]→aut s (t++r)=((aut q r).1+t.length,(aut q r).2)
 |[],_,_,h=>absurd rfl h
 |[c],r,h,_=>mf (B c (nk (h c (bS ..))))
 |c::d::t,r,h,_=>by
  have h1:=ic (s:=q) A A (d::t) r (fun x C=>h x (dF _ C)) (by intro h;cases h);have h2:=mf (r:=(d::t)++r) (B c (nk (h c (bS ..))));rw[h1] at h2;exact h2
theorem gh {s:Nat} {c:UInt8} {r:List UInt8} (h:stp s (cls c)=none):aut s (c::r)=(0,false):=by
 show (match stp s (cls c) with|none=>_|some t=>_)=_;rw[h]
theorem stp2 {s c:Nat} (A:s≤2) (h:c=2):stp s c=some 2:=by
 subst h;unfold stp;rw[if_neg dT,if_pos rfl,if_pos A]
theorem stp4 {s c:Nat} (B:2<s) (A:s≤4) (h:c=2):stp s c=some 4:=by
 subst h;unfold stp;rw[if_neg dT,if_pos rfl,if_neg dT,if_pos A]
theorem jK {s c:Nat} (h1:c≠2) (h2:s≠0∨c≠1) (h3:s≠2∨c≠3):stp s c=none:=by
 unfold stp;rw[if_neg dT,if_neg h1,if_neg dT]
/-- Behind a sign or none: digits go to the state 2, from 0 or 1. -/
theorem kh {s t r:List UInt8} (C:Sg s (t++r)) (B:Digs t) (A:t≠[]):aut 0 (s++(t++r))=((aut 2 r).1+t.length+s.length,(aut 2 r).2):=by
 rcases C with rfl|⟨rfl,-⟩
 ·show ((aut 1 (t++r)).1+1,(aut 1 (t++r)).2)=_;rw[ic (q:=2) (fun c h=>stp2 dT h) (fun c h=>stp2 dT h) t r B A];rfl
 ·show aut 0 (t++r)=_;rw[ic (q:=2) (fun c h=>stp2 dT h) (fun c h=>stp2 dT h) t r B A];rfl
/-- No digit behind the sign: it ends there. -/
theorem o4 {s r:List UInt8} (B:Sg s r) (A:Stop r):aut 0 (s++r)=(s.length,false):=by
 rcases B with rfl|⟨rfl,h⟩
 ·show ((aut 1 r).1+1,(aut 1 r).2)=_;cases r with
  |nil=>rfl
  |cons c r=>rw[gh (jK (il (A c r rfl)) (Or.inl dT) (Or.inl dT))];rfl
 ·show aut 0 r=_;cases r with
  |nil=>rfl
  |cons c r=>
   refine gh (jK (il (A c r rfl)) (Or.inr ?_) (Or.inl dT));unfold cls;have:c.toNat≠45:=fun h2=>h r (by rw[show c=45 from UInt8.toNat_inj.1 h2]);rw[if_neg this];split
   ·omega
   ·split<;>omega
theorem p4:aut 2 []=(0,true):=rfl
theorem nZ {c:UInt8} {r:List UInt8} (A:gy c=false) (h:c≠47):aut 2 (c::r)=(0,false):=by
 refine gh (jK (il A) (Or.inl dT) (Or.inr ?_));have h2:c.toNat≠47:=fun h3=>h (UInt8.toNat_inj.1 h3);have e:cls c=if c.toNat=45 then 1 else 4:=by
  unfold cls;rw[if_neg (show ¬ (gy c=true) by rw[A];exact Bool.false_ne_true),if_neg h2]
 rw[e];split<;>omega
theorem kW (r:List UInt8):aut 2 (47::r)=((aut 3 r).1+1,(aut 3 r).2):=rfl
theorem nf {r:List UInt8} (A:Stop r):aut 3 r=(0,false):=by
 cases r with
 |nil=>rfl
 |cons c r=>exact gh (jK (il (A c r rfl)) (Or.inl dT) (Or.inl dT))
theorem jV {u v:List UInt8} (hu:Digs u) (A:u≠[]) (hv:Stop v):aut 3 (u++v)=(u.length,decide (v=[])):=by
 rw[ic (q:=4) (fun c h=>stp4 dT dT h) (fun c h=>stp4 dT dT h) u v hu A];cases v with
 |nil=>rw[decide_eq_true rfl];show (0+u.length,true)=_;rw[az]
 |cons c r=>
  rw[gh (jK (il (hv c r rfl)) (Or.inl dT) (Or.inl dT)),decide_eq_false (by intro h;cases h)];show (0+u.length,false)=_;rw[az]
end Go.Proofs.YtfnkkkcojnffdaaGreatDoor.EN
