/- What is proved here: plain facts on whole numbers written in words of 64 bits, the least first (no program), and on rows of such words in memory.
What is proved here: contracts of package exact, rows of words of 64 bits: trim, word, one, over this seat's translation.
What is proved here: plain facts on whole numbers written in words of 32 bits, the least first (no program), and on rows of such words in memory. -/
import Derived.Test.YtfnkkkcojnffdaaGreatDoorQ1
import Derived.Test.YtfnkkkcojnffdaaGreatDoorQ3
import Derived.Deep.OwnRows
namespace Go.Proofs.YtfnkkkcojnffdaaGreatDoor.EN
open Go.RowKit
def val:List Nat→Nat
 |[]=>0
 |d::l=>d+2^64*val l
def okw (l:List Nat):Prop:=∀ d∈l,d<2^64
def canon (l:List Nat):Prop:=okw l∧∀ h:l≠[],l.getLast h≠0
theorem val_append (l m:List Nat):val (l++m)=val l+2^(64*l.length)*val m:=by
 induction l with
 |nil=>simp [val]
 |cons d l A=>
  simp only[List.cons_append,val,A,bw];rw[aw,← ak,← ah,show 64*(l.length+1)=64+64*l.length from by omega];omega
theorem gG:okw []:=fun _ h=>by cases h
theorem okw_cons {d:Nat} {l:List Nat}:okw (d::l)↔d<2^64∧okw l:=by
 unfold okw;simp
theorem okw_append {l m:List Nat}:okw (l++m)↔okw l∧okw m:=by
 unfold okw;constructor
 ·intro h;exact⟨fun d A=>h d (dH _ A),fun d A=>h d (List.mem_append_right _ A)⟩
 ·rintro⟨h1,h2⟩ d A;rcases List.mem_append.1 A with h|h
  ·exact h1 d h
  ·exact h2 d h
theorem gT {l:List Nat} (h:okw l) (n:Nat):okw (l.take n):=fun d A=>h d (List.mem_of_mem_take A)
theorem jc {l:List Nat} (h:okw l) (n:Nat):okw (l.drop n):=fun d A=>h d (List.mem_of_mem_drop A)
theorem eO {l:List Nat} (h:okw l) (i:Nat):l.getD i 0<2^64:=by
 by_cases hi:i<l.length
 ·rw[ad,aE hi];exact h _ (List.getElem_mem hi)
 ·rw[ad,aZ eK];simp
theorem kV {l:List Nat} (h:okw l) (i x:Nat) (B:x<2^64):okw (l.set i x):=fun d A=>by
 rcases dc A with h1|h1
 ·exact h d h1
 ·rw[h1];exact B
theorem fm {l:List Nat} (h:okw l):val l<2^(64*l.length):=by
 induction l with
 |nil=>simp [val]
 |cons d l A=>
  obtain⟨h1,h2⟩:=okw_cons.1 h;have h3:=A h2;simp only[val,bw];rw[show 64*(l.length+1)=64+64*l.length from by omega,ah];have:2^64*(val l+1)≤2^64*2^(64*l.length):=aA _ h3;rw[aw] at this;omega
theorem gO {l:List Nat} {k:Nat} (h:k<l.length):l.take (k+1)=l.take k++[l.getD k 0]:=by
 rw[List.take_succ_eq_append_getElem h]
 congr 2
 rw[ad,aE h];rfl
theorem gK (d:Nat):val [d]=d:=by simp [val]
theorem fS {l:List Nat} {k:Nat} (h:k<l.length):val (l.take (k+1))=val (l.take k)+2^(64*k)*l.getD k 0:=by
 rw[gO h,val_append,gK,bj,bM eK]
theorem eR (l:List Nat) (k:Nat):val (l.take (k+1))=val (l.take k)+2^(64*k)*l.getD k 0:=by
 by_cases h:k<l.length
 ·exact fS h
 ·rw[aC eK,aC eK,ad,aZ eK];simp
theorem fG (l:List Nat) (k:Nat) (h:k≤l.length):val l=val (l.take k)+2^(64*k)*val (l.drop k):=by
 have h1:=val_append (l.take k) (l.drop k);rw[List.take_append_drop,bj,bM h] at h1;exact h1
theorem fJ {l:List Nat} {k x:Nat}:(l.set k x).take k=l.take k:=by
 rw[List.take_set];exact List.set_eq_of_length_le (by simp;omega)
theorem eY {l:List Nat} {k x:Nat} (h:k<l.length):(l.set k x).getD k 0=x:=by
 rw[ad];simp [h]
theorem fe {l:List Nat} {k x:Nat} (h:k<l.length):val ((l.set k x).take (k+1))=val (l.take k)+2^(64*k)*x:=by
 rw[fS (by simpa using h),fJ,eY h]
theorem fZ {l:List Nat} (h:canon l) (A:l≠[]):2^(64*(l.length-1))≤val l:=by
 have h1:=h.2 A;have h2:=List.dropLast_concat_getLast A;have h3:=val_append l.dropLast [l.getLast A];rw[h2,gK,List.length_dropLast] at h3;have B:2^(64*(l.length-1))*1≤2^(64*(l.length-1))*l.getLast A:=aA _ eK;omega
theorem gh:canon []:=⟨gG,fun h=>absurd rfl h⟩
theorem fR {l:List Nat} (h:canon l):val l=0↔l=[]:=by
 constructor
 ·intro B;by_cases A:l=[]
  ·exact A
  ·have:=fZ h A;have:=af (64*(l.length-1));omega
 ·rintro rfl;rfl
theorem fH {l m:List Nat} (A:canon l) (B:canon m) (h:l.length<m.length):val l<val m:=by
 have h1:=fm A.1;have C:m≠[]:=by intro e;rw[e] at h;simp at h
 have h2:=fZ B C;have h3:2^(64*l.length)≤2^(64*(m.length-1)):=ai eK eK;omega
/-- A canonical row is short where its number is small. -/
theorem eQ {l:List Nat} (h:canon l) {k:Nat} (hv:val l<2^(64*k)):l.length≤k:=by
 by_cases A:l=[]
 ·rw[A];simp
 ·have h1:=fZ h A;have h2:2^(64*(l.length-1))<2^(64*k):=by omega
  have h3:=(aY (by omega:1<2)).1 h2;have:l.length≠0:=fun e=>A (aH e);omega
theorem fb {l:List Nat} {k:Nat} (h:k<l.length):l.drop k=l.getD k 0::l.drop (k+1):=by
 rw[ew h]
 congr 1
 rw[ad,aE h];rfl
theorem fq {l:List Nat} {k:Nat} (h:k<l.length):val l=val (l.take k)+2^(64*k)*(l.getD k 0+2^64*val (l.drop (k+1))):=by
 rw[fG l k eK,fb h];rfl
theorem fw {l:List Nat} (h:okw l) (k:Nat) (A:k≤l.length):val (l.take k)<2^(64*k):=by
 have:=fm (gT h k)
 rwa[bj,bM A] at this
/-- The first word from above that parts decides. -/
theorem jZ {l m:List Nat} {k:Nat} (C:okw l) (h1:k<l.length) (h2:k<m.length) (B:val (l.drop (k+1))=val (m.drop (k+1))) (D:l.getD k 0<m.getD k 0):val l<val m:=by
 rw[fq h1,fq h2,B];have h3:=fw C k eK;have A:2^(64*k)*(l.getD k 0+2^64*val (m.drop (k+1))+1)≤2^(64*k)*(m.getD k 0+2^64*val (m.drop (k+1))):=aA _ eK;rw[aw,bJ] at A;omega
/-! Rows in memory. -/
/-- From place o of block b on lie the words of l. -/
def Row (w:World) (b o:Nat) (l:List Nat):Prop:=∀ i,i<l.length→w.cell? ⟨b,o+i,none⟩=some (.int .u64 (l.getD i 0:Nat))
/-- v is a slice of just these words. -/
def Sl (w:World) (v:Value) (l:List Nat):Prop:=
 okw l∧((l=[]∧∃ a c,v= .slice a 0 c)∨∃ b o c,v= .slice (some ⟨b,o,none⟩) l.length c∧l.length≤c∧b<w.heap.size∧Row w b o l)
/-- v is the canonical slice of n. -/
def Num (w:World) (v:Value) (n:Nat):Prop:=∃ l,Sl w v l∧canon l∧val l=n
/-- A row of our own: block b, from its beginning, may be written. -/
def Own (w:World) (b:Nat) (l:List Nat):Prop:=okw l∧b<w.heap.size∧Row w b 0 l∧∀ i,i<l.length→w.frozen? ⟨b,i,none⟩=false
/-- A call hands back the canonical slice of n; nothing that was there has turned. -/
def eU (w:World) (n:Nat) (e:Ending) (A:World):Prop:=∃ v,e= .returned v∧G w A∧Num A v n
theorem Row.G {w A:World} {b o:Nat} {l:List Nat} (h:Row w b o l) (hb:b<w.heap.size) (g:G w A):Row A b o l:=fun i hi=>g.cell hb (h i hi)
theorem Sl.G {w A:World} {v:Value} {l:List Nat} (h:Sl w v l) (g:G w A):Sl A v l:=by
 obtain⟨h1,h2⟩:=h;refine⟨h1,?_⟩;rcases h2 with h2|⟨b,o,c,e,B,hb,C⟩
 ·exact Or.inl h2
 ·exact Or.inr ⟨b,o,c,e,B,ae hb g.size,C.G hb g⟩
theorem Num.G {w A:World} {v:Value} {n:Nat} (h:Num w v n) (g:G w A):Num A v n:=by
 obtain⟨l,h1,h2⟩:=h;exact⟨l,h1.G g,h2⟩
theorem Own.sl {w:World} {b:Nat} {l:List Nat} (h:Own w b l) (c:Nat) (A:l.length≤c):Sl w (.slice (some ⟨b,0,none⟩) l.length c) l:=
 ⟨h.1,Or.inr ⟨b,0,c,rfl,A,h.2.1,h.2.2.1⟩⟩
/-- A store into a row of our own. -/
theorem Own.set {w:World} {b:Nat} {l:List Nat} (h:Own w b l) (i x:Nat) (hi:i<l.length) (E:x<2^64):
  Own (w.setCell ⟨b,i,none⟩ (.int .u64 (x:Int))) b (l.set i x):=by
 obtain⟨h1,h2,h3,D⟩:=h;refine⟨kV h1 i x E,by simpa using h2,fun j B=> ?_,fun j B=>by rw[World.frozen?_setCell];exact D j (by simpa using B)⟩;have C:j<l.length:=by simpa using B
 have A:=h3 j C;rw[aD] at A ⊢;by_cases e:i=j
 ·subst e;rw[World.cell?_setCell_same _ _ _ A,eY hi]
 ·rw[World.cell?_setCell_other _ _ _ _ (by intro h;apply e;injection h),A]
  congr 3
  rw[ad,ad,aT e]
theorem Own.frozen {w:World} {b:Nat} {l:List Nat} (h:Own w b l) {i:Nat} (hi:i<l.length):w.frozen? ⟨b,i,none⟩=false:=h.2.2.2 i hi
theorem Own.cell {w:World} {b:Nat} {l:List Nat} (h:Own w b l) {i:Nat} (hi:i<l.length):w.cell? ⟨b,i,none⟩=some (.int .u64 (l.getD i 0:Nat)):=by
 have:=h.2.2.1 i hi
 rwa[aD] at this
/-- Rows of others stand still under a store into ours. -/
theorem Row.set {w:World} {b o c i:Nat} {l:List Nat} {u:Value} (h:Row w b o l) (hb:b≠c):Row (w.setCell ⟨c,i,none⟩ u) b o l:=fun j B=>by
 rw[World.cell?_setCell_other _ _ _ _ (by intro e;apply hb;injection e with A;exact A.symm)];exact h j B
theorem Own.grow {w A:World} {b:Nat} {l:List Nat} (h:Own w b l) (g:G w A):Own A b l:=
 ⟨h.1,ae h.2.1 g.size,h.2.2.1.G h.2.1 g,fun i hi=>g.frozen h.2.1 (h.2.2.2 i hi)⟩
/-- A row that 'make' lays. -/
theorem fB (w:World) (n:Nat) (e:TypeId):Own (w.alloc (.cells (madeCells #[.int .u64 0] n) e)) w.heap.size (List.replicate n 0):=by
 refine⟨fun d B=>by rw[List.eq_of_mem_replicate B];omega,by simp,fun i hi=> ?_,fun i hi=>World.frozen?_alloc_at _ _ _ _ rfl⟩;have A:i<n:=by simpa using hi
 rw[aD,World.cell?_alloc_at _ _ _ _ rfl];have D:=toList_madeCells_one (.int .u64 0) n;have C:(madeCells #[Value.int .u64 0] n)[i]? =some (.int .u64 0):=by
  rw[← Array.getElem?_toList,D];simp [A]
 rw[C]
 congr 2
 rw[ad];simp [A]
end Go.Proofs.YtfnkkkcojnffdaaGreatDoor.EN
namespace Go.Proofs.YtfnkkkcojnffdaaGreatDoor.EN
open Go.ChangeShapes Go.WideShapes Go.ChangeAt Go.RowKit
theorem Sl.cases {w:World} {v:Value} {l:List Nat} (h:Sl w v l):
  (l=[]∧∃ a c,v= .slice a 0 c)∨(l≠[]∧∃ b o c,v= .slice (some ⟨b,o,none⟩) l.length c∧l.length≤c∧b<w.heap.size∧Row w b o l):=by
 obtain⟨-,h|⟨b,o,c,e,B,hb,C⟩⟩:=h
 ·exact Or.inl h
 ·by_cases A:l=[]
  ·subst A;exact Or.inl ⟨rfl,_,c,e⟩
  ·exact Or.inr ⟨A,b,o,c,e,B,hb,C⟩
theorem jB {l:List Nat} (h:okw l) (k:Nat) (E:k<l.length) (D:l.getD k 0≠0):canon (l.take (k+1)):=by
 refine⟨gT h _,fun C=> ?_⟩;have e:=gO E;have:(l.take (k+1)).getLast C=l.getD k 0:=by
  have:∀ (m:List Nat) (B:m≠[]),m=l.take k++[l.getD k 0]→m.getLast B=l.getD k 0:=by
   intro m B A;subst A;simp
  exact this _ C e
 rw[this];exact D
theorem trim_c (w:World) (v:Value) (l:List Nat) (K:Sl w v l) (m:l.length≤1048576):
  Calls Tryz.prog 122 #[v] w (eU w (val l)):=by
 have F:=K.1;rcases Sl.cases K with ⟨rfl,a,c,rfl⟩|⟨Y,b,o,c,rfl,Z,hb,S⟩
 ·cases a
  all_goals
   go_enter Tryz.func122,Tryz.ntmps122;go_wp2;refine wp_loop_rounds 1 ?_;rw[rounds_succ];go_wp2;go_ret;exact⟨_,rfl,ag _,[],⟨gG,Or.inl ⟨rfl,_,_,rfl⟩⟩,gh,rfl⟩
 ·generalize R:l.length=n at *;have N:=hi9 S;have E:=hi9 R;clear S R K;go_enter Tryz.func122,Tryz.ntmps122;go_wp2
  go_loop [3] (fun M=>∃ k:Nat,k≤n∧M= .int .i64 k∧val (l.take k)=val l) (fun M=>(intOf M).toNat)
  case atStart=>exact⟨n,az _,rfl,by rw[← E.out,List.take_length]⟩
  case round=>
   obtain⟨k,j,rfl,hv⟩:=hrel;have I:=hi9 hv;clear hv;cases k with
   |zero=>
    go_wp2;go_ret;have L:val l=0:=by rw[← I.out];simp [val]
    exact⟨_,rfl,ag _,[],⟨gG,Or.inl ⟨rfl,_,_,rfl⟩⟩,gh,by rw[L];rfl⟩
   |succ k=>
    have C:=N.out k (by rw[E.out];omega);have D:k<l.length:=by rw[E.out];omega
    have B:=fS D;have A:=jB F k D;generalize l.getD k 0=d at C B A;by_cases O:d=0
    ·subst O;have W:=hi9 B;clear B A D;go_wp2
     go_round
     case rel=>exact⟨k,by omega,by go_num,by rw[← I.out,W.out];simp⟩
     case measure=>simp [intOf]
    ·have X:((d:Int)==0)=false:=by simp;omega
     have U:=hi9 A;clear B A;go_wp2;go_ret;refine⟨_,rfl,ag _,l.take (k+1),⟨gT F _,Or.inr ⟨b,o,c,?_,?_,hb,fun i hi=> ?_⟩⟩,U.out O,I.out⟩
     ·rw[bj,E.out,bM eK];simp
     ·rw[bj];omega
     ·have J:i<k+1:=by rw[bj] at hi;omega
      have:=N.out i (by rw[E.out];omega);rw[this]
      congr 3
      rw[ad,ad,eE J]
/-- The cells of a slice, in a form that serves the empty one too. -/
theorem fa {w:World} {v:Value} {l:List Nat} (h:Sl w v l):∃ a c,v= .slice a l.length c∧l.length≤c∧∀ i,i<l.length→∃ b o,a=some ⟨b,o,none⟩∧b<w.heap.size∧w.cell? ⟨b,o+i,none⟩=some (.int .u64 (l.getD i 0:Nat)):=by
 rcases Sl.cases h with ⟨rfl,a,c,rfl⟩|⟨B,b,o,c,rfl,A,hb,C⟩
 ·exact⟨a,c,rfl,bC _,fun i hi=>by simp at hi⟩
 ·exact⟨_,c,rfl,A,fun i hi=>⟨b,o,rfl,hb,C i hi⟩⟩
theorem jk (w:World) (d:Nat) (e:TypeId) (B:d<2^64):
  Sl (w.alloc (.cells #[.int .u64 (d:Int)] e)) (.slice (some ⟨w.heap.size,0,none⟩) 1 1) [d]:=by
 refine⟨fun x A=> ?_,Or.inr ⟨w.heap.size,0,1,rfl,az _,by simp,fun i hi=> ?_⟩⟩
 ·simp at A;subst A;exact B
 ·rw[aD,World.cell?_alloc_at _ _ _ _ rfl];have:i=0:=by simp at hi;omega
  subst this;rfl
theorem kG (w:World) (x:Nat) (D:x<2^64):
  Calls Tryz.prog 110 #[.int .u64 x] w (eU w x):=by
 have C:Hid _:=fun w=>trim_c _ _ _ (jk w x 78 D) fI;rw[gK] at C;go_enter Tryz.func110,Tryz.ntmps110;go_wp2_with fail;refine(C.out w).mono ?_;rintro e F ⟨E,rfl,A,B⟩;go_wp2;go_ret;exact⟨E,rfl,aa ((ag _).alloc _) A,B⟩
theorem q3P (w:World) (v:Value) (n K:Nat) (hv:Num w v n) (F:n<2^(64*K)):
  Calls Tryz.prog 109 #[v] w fun e N=>e= .returned (.bool (decide (n=1)))∧G w N:=by
 obtain⟨l,D,B,rfl⟩:=hv;have E:=eQ B F;obtain⟨p,c,rfl,J,I⟩:=fa D;by_cases h1:l.length=1
 ·obtain⟨d,rfl⟩:∃ d,l=[d]:=by
   match l,h1 with
   |[d],_=>exact⟨d,rfl⟩
  obtain⟨b,o,rfl,hb,A⟩:=I 0 fI;rw[aS] at A;have M:([d]:List Nat).getD 0 0=d:=rfl;rw[M] at A;rw[gK];have t1:((([d]:List Nat).length:Nat):Int)=1:=rfl;have t2:((d:Int)==1)=decide (d=1):=by
   by_cases h:d=1
   ·subst h;rfl
   ·rw[decide_eq_false h];simp;omega
  clear I E F J D B h1;go_enter Tryz.func109,Tryz.ntmps109;go_wp2;go_ret;exact⟨rfl,ag _⟩
 ·have L:¬ val l=1:=by
   intro C;have h2:l.length≤1:=eQ B (k:=1) (by rw[C];exact Nat.one_lt_two_pow eK);have h3:l=[]:=aH eK;rw[h3] at C;cases C
  rw[decide_eq_false L];have t1:((l.length:Int)==1)=false:=by simp;omega
  generalize l.length=n at *;clear I J D B L F h1;go_enter Tryz.func109,Tryz.ntmps109;go_wp2;go_ret;exact⟨rfl,ag _⟩
end Go.Proofs.YtfnkkkcojnffdaaGreatDoor.EN
namespace Go.Proofs.YtfnkkkcojnffdaaGreatDoor.BN
open Go.RowKit
def val:List Nat→Nat
 |[]=>0
 |d::l=>d+2^32*val l
def okw (l:List Nat):Prop:=∀ d∈l,d<2^32
def canon (l:List Nat):Prop:=okw l∧∀ h:l≠[],l.getLast h≠0
theorem val_append (l m:List Nat):val (l++m)=val l+2^(32*l.length)*val m:=by
 induction l with
 |nil=>simp [val]
 |cons d l A=>
  simp only[List.cons_append,val,A,bw];rw[aw,← ak,← ah,show 32*(l.length+1)=32+32*l.length from by omega];omega
theorem gG:okw []:=fun _ h=>by cases h
theorem okw_cons {d:Nat} {l:List Nat}:okw (d::l)↔d<2^32∧okw l:=by
 unfold okw;simp
theorem okw_append {l m:List Nat}:okw (l++m)↔okw l∧okw m:=by
 unfold okw;constructor
 ·intro h;exact⟨fun d A=>h d (dH _ A),fun d A=>h d (List.mem_append_right _ A)⟩
 ·rintro⟨h1,h2⟩ d A;rcases List.mem_append.1 A with h|h
  ·exact h1 d h
  ·exact h2 d h
theorem gT {l:List Nat} (h:okw l) (n:Nat):okw (l.take n):=fun d A=>h d (List.mem_of_mem_take A)
theorem jc {l:List Nat} (h:okw l) (n:Nat):okw (l.drop n):=fun d A=>h d (List.mem_of_mem_drop A)
theorem eO {l:List Nat} (h:okw l) (i:Nat):l.getD i 0<2^32:=by
 by_cases hi:i<l.length
 ·rw[ad,aE hi];exact h _ (List.getElem_mem hi)
 ·rw[ad,aZ eK];simp
theorem kV {l:List Nat} (h:okw l) (i x:Nat) (B:x<2^32):okw (l.set i x):=fun d A=>by
 rcases dc A with h1|h1
 ·exact h d h1
 ·rw[h1];exact B
theorem fm {l:List Nat} (h:okw l):val l<2^(32*l.length):=by
 induction l with
 |nil=>simp [val]
 |cons d l A=>
  obtain⟨h1,h2⟩:=okw_cons.1 h;have h3:=A h2;simp only[val,bw];rw[show 32*(l.length+1)=32+32*l.length from by omega,ah];have:2^32*(val l+1)≤2^32*2^(32*l.length):=aA _ h3;rw[aw] at this;omega
theorem gO {l:List Nat} {k:Nat} (h:k<l.length):l.take (k+1)=l.take k++[l.getD k 0]:=by
 rw[List.take_succ_eq_append_getElem h]
 congr 2
 rw[ad,aE h];rfl
theorem gK (d:Nat):val [d]=d:=by simp [val]
theorem fS {l:List Nat} {k:Nat} (h:k<l.length):val (l.take (k+1))=val (l.take k)+2^(32*k)*l.getD k 0:=by
 rw[gO h,val_append,gK,bj,bM eK]
theorem eR (l:List Nat) (k:Nat):val (l.take (k+1))=val (l.take k)+2^(32*k)*l.getD k 0:=by
 by_cases h:k<l.length
 ·exact fS h
 ·rw[aC eK,aC eK,ad,aZ eK];simp
theorem fG (l:List Nat) (k:Nat) (h:k≤l.length):val l=val (l.take k)+2^(32*k)*val (l.drop k):=by
 have h1:=val_append (l.take k) (l.drop k);rw[List.take_append_drop,bj,bM h] at h1;exact h1
theorem fJ {l:List Nat} {k x:Nat}:(l.set k x).take k=l.take k:=by
 rw[List.take_set];exact List.set_eq_of_length_le (by simp;omega)
theorem eY {l:List Nat} {k x:Nat} (h:k<l.length):(l.set k x).getD k 0=x:=by
 rw[ad];simp [h]
theorem fe {l:List Nat} {k x:Nat} (h:k<l.length):val ((l.set k x).take (k+1))=val (l.take k)+2^(32*k)*x:=by
 rw[fS (by simpa using h),fJ,eY h]
theorem fZ {l:List Nat} (h:canon l) (A:l≠[]):2^(32*(l.length-1))≤val l:=by
 have h1:=h.2 A;have h2:=List.dropLast_concat_getLast A;have h3:=val_append l.dropLast [l.getLast A];rw[h2,gK,List.length_dropLast] at h3;have B:2^(32*(l.length-1))*1≤2^(32*(l.length-1))*l.getLast A:=aA _ eK;omega
theorem gh:canon []:=⟨gG,fun h=>absurd rfl h⟩
theorem fR {l:List Nat} (h:canon l):val l=0↔l=[]:=by
 constructor
 ·intro B;by_cases A:l=[]
  ·exact A
  ·have:=fZ h A;have:=af (32*(l.length-1));omega
 ·rintro rfl;rfl
theorem fH {l m:List Nat} (A:canon l) (B:canon m) (h:l.length<m.length):val l<val m:=by
 have h1:=fm A.1;have C:m≠[]:=by intro e;rw[e] at h;simp at h
 have h2:=fZ B C;have h3:2^(32*l.length)≤2^(32*(m.length-1)):=ai eK eK;omega
/-- A canonical row is short where its number is small. -/
theorem eQ {l:List Nat} (h:canon l) {k:Nat} (hv:val l<2^(32*k)):l.length≤k:=by
 by_cases A:l=[]
 ·rw[A];simp
 ·have h1:=fZ h A;have h2:2^(32*(l.length-1))<2^(32*k):=by omega
  have h3:=(aY (by omega:1<2)).1 h2;have:l.length≠0:=fun e=>A (aH e);omega
theorem fb {l:List Nat} {k:Nat} (h:k<l.length):l.drop k=l.getD k 0::l.drop (k+1):=by
 rw[ew h]
 congr 1
 rw[ad,aE h];rfl
theorem fq {l:List Nat} {k:Nat} (h:k<l.length):val l=val (l.take k)+2^(32*k)*(l.getD k 0+2^32*val (l.drop (k+1))):=by
 rw[fG l k eK,fb h];rfl
theorem fw {l:List Nat} (h:okw l) (k:Nat) (A:k≤l.length):val (l.take k)<2^(32*k):=by
 have:=fm (gT h k)
 rwa[bj,bM A] at this
/-- The first word from above that parts decides. -/
theorem jZ {l m:List Nat} {k:Nat} (C:okw l) (h1:k<l.length) (h2:k<m.length) (B:val (l.drop (k+1))=val (m.drop (k+1))) (D:l.getD k 0<m.getD k 0):val l<val m:=by
 rw[fq h1,fq h2,B];have h3:=fw C k eK;have A:2^(32*k)*(l.getD k 0+2^32*val (m.drop (k+1))+1)≤2^(32*k)*(m.getD k 0+2^32*val (m.drop (k+1))):=aA _ eK;rw[aw,bJ] at A;omega
/-! Rows in memory. -/
/-- From place o of block b on lie the words of l. -/
def Row (w:World) (b o:Nat) (l:List Nat):Prop:=∀ i,i<l.length→w.cell? ⟨b,o+i,none⟩=some (.int .u32 (l.getD i 0:Nat))
/-- v is a slice of just these words. -/
def Sl (w:World) (v:Value) (l:List Nat):Prop:=
 okw l∧((l=[]∧∃ a c,v= .slice a 0 c)∨∃ b o c,v= .slice (some ⟨b,o,none⟩) l.length c∧l.length≤c∧b<w.heap.size∧Row w b o l)
/-- v is the canonical slice of n. -/
def Num (w:World) (v:Value) (n:Nat):Prop:=∃ l,Sl w v l∧canon l∧val l=n
/-- A row of our own: block b, from its beginning, may be written. -/
def Own (w:World) (b:Nat) (l:List Nat):Prop:=okw l∧b<w.heap.size∧Row w b 0 l∧∀ i,i<l.length→w.frozen? ⟨b,i,none⟩=false
/-- A call hands back the canonical slice of n; nothing that was there has turned. -/
def eU (w:World) (n:Nat) (e:Ending) (A:World):Prop:=∃ v,e= .returned v∧G w A∧Num A v n
theorem Row.G {w A:World} {b o:Nat} {l:List Nat} (h:Row w b o l) (hb:b<w.heap.size) (g:G w A):Row A b o l:=fun i hi=>g.cell hb (h i hi)
theorem Sl.G {w A:World} {v:Value} {l:List Nat} (h:Sl w v l) (g:G w A):Sl A v l:=by
 obtain⟨h1,h2⟩:=h;refine⟨h1,?_⟩;rcases h2 with h2|⟨b,o,c,e,B,hb,C⟩
 ·exact Or.inl h2
 ·exact Or.inr ⟨b,o,c,e,B,ae hb g.size,C.G hb g⟩
theorem Num.G {w A:World} {v:Value} {n:Nat} (h:Num w v n) (g:G w A):Num A v n:=by
 obtain⟨l,h1,h2⟩:=h;exact⟨l,h1.G g,h2⟩
theorem Own.sl {w:World} {b:Nat} {l:List Nat} (h:Own w b l) (c:Nat) (A:l.length≤c):Sl w (.slice (some ⟨b,0,none⟩) l.length c) l:=
 ⟨h.1,Or.inr ⟨b,0,c,rfl,A,h.2.1,h.2.2.1⟩⟩
/-- A store into a row of our own. -/
theorem Own.set {w:World} {b:Nat} {l:List Nat} (h:Own w b l) (i x:Nat) (hi:i<l.length) (E:x<2^32):
  Own (w.setCell ⟨b,i,none⟩ (.int .u32 (x:Int))) b (l.set i x):=by
 obtain⟨h1,h2,h3,D⟩:=h;refine⟨kV h1 i x E,by simpa using h2,fun j B=> ?_,fun j B=>by rw[World.frozen?_setCell];exact D j (by simpa using B)⟩;have C:j<l.length:=by simpa using B
 have A:=h3 j C;rw[aD] at A ⊢;by_cases e:i=j
 ·subst e;rw[World.cell?_setCell_same _ _ _ A,eY hi]
 ·rw[World.cell?_setCell_other _ _ _ _ (by intro h;apply e;injection h),A]
  congr 3
  rw[ad,ad,aT e]
theorem Own.frozen {w:World} {b:Nat} {l:List Nat} (h:Own w b l) {i:Nat} (hi:i<l.length):w.frozen? ⟨b,i,none⟩=false:=h.2.2.2 i hi
theorem Own.cell {w:World} {b:Nat} {l:List Nat} (h:Own w b l) {i:Nat} (hi:i<l.length):w.cell? ⟨b,i,none⟩=some (.int .u32 (l.getD i 0:Nat)):=by
 have:=h.2.2.1 i hi
 rwa[aD] at this
/-- Rows of others stand still under a store into ours. -/
theorem Row.set {w:World} {b o c i:Nat} {l:List Nat} {u:Value} (h:Row w b o l) (hb:b≠c):Row (w.setCell ⟨c,i,none⟩ u) b o l:=fun j B=>by
 rw[World.cell?_setCell_other _ _ _ _ (by intro e;apply hb;injection e with A;exact A.symm)];exact h j B
theorem Own.grow {w A:World} {b:Nat} {l:List Nat} (h:Own w b l) (g:G w A):Own A b l:=
 ⟨h.1,ae h.2.1 g.size,h.2.2.1.G h.2.1 g,fun i hi=>g.frozen h.2.1 (h.2.2.2 i hi)⟩
/-- A row that 'make' lays. -/
theorem fB (w:World) (n:Nat) (e:TypeId):Own (w.alloc (.cells (madeCells #[.int .u32 0] n) e)) w.heap.size (List.replicate n 0):=by
 refine⟨fun d B=>by rw[List.eq_of_mem_replicate B];omega,by simp,fun i hi=> ?_,fun i hi=>World.frozen?_alloc_at _ _ _ _ rfl⟩;have A:i<n:=by simpa using hi
 rw[aD,World.cell?_alloc_at _ _ _ _ rfl];have D:=toList_madeCells_one (.int .u32 0) n;have C:(madeCells #[Value.int .u32 0] n)[i]? =some (.int .u32 0):=by
  rw[← Array.getElem?_toList,D];simp [A]
 rw[C]
 congr 2
 rw[ad];simp [A]
end Go.Proofs.YtfnkkkcojnffdaaGreatDoor.BN
