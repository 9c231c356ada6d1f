/- What is proved here: plain facts on whole numbers written in words of 64 bits, the least first (no program), and on rows of such words in memory.
What is proved here: contracts of package exact, rows of words of 64 bits: trim, word, one, over this seat's translation.
What is proved here: contracts of package exact: how two numbers stand to each other, over this seat's translation.
What is proved here: plain facts on whole numbers written in words of 32 bits, the least first (no program), and on rows of such words in memory.
What is proved here: contracts of the reference's big numbers, rows of words: trim, words, cmp, over this seat's translation.
What is proved here: contracts of the reference's big numbers: add, sub, over this seat's translation.
What is proved here: contracts of the reference's big numbers: sub, over this seat's translation.
What is proved here: contracts of the reference's big numbers: mul, over this seat's translation.
What is proved here: contracts of the reference's big numbers: plain, left, right, small, over this seat's translation.
What is proved here: contracts of the reference's big numbers: right, small, over this seat's translation.
What is proved here: contracts of the reference's big numbers: small, over this seat's translation.
What is proved here: contracts of the reference's big numbers: length, twin, over this seat's translation.
What is proved here: plain facts on the digits of a long division (no program). -/
import Derived.Test.YtbfjihniphldaaaGreatDoorC2
import Derived.Deep.OwnRows
namespace Go.Proofs.YtbfjihniphldaaaGreatDoor.EN
open Go.RowKit
def val:List Nat→Nat
 |[]=>0
 |d::l=>d+2^64*val l
def okw (l:List Nat):Prop:=∀ d∈l,d<2^64
def canon (l:List Nat):Prop:=okw l∧∀ h:l≠[],l.getLast h≠0
theorem val_append (l m:List Nat):val (l++m)=val l+2^(64*l.length)*val m:=by
 induction l with
 |nil=>simp [val]
 |cons d l ih=>
  simp only[List.cons_append,val,ih,List.length_cons];rw[Nat.mul_add,← Nat.mul_assoc,← Nat.pow_add,show 64*(l.length+1)=64+64*l.length from by omega];omega
theorem q1f:okw []:=fun _ h=>by cases h
theorem okw_cons {d:Nat} {l:List Nat}:okw (d::l)↔d<2^64∧okw l:=by
 unfold okw;simp
theorem okw_append {l m:List Nat}:okw (l++m)↔okw l∧okw m:=by
 unfold okw;constructor
 ·intro h;exact⟨fun d hd=>h d (List.mem_append_left _ hd),fun d hd=>h d (List.mem_append_right _ hd)⟩
 ·rintro⟨h1,h2⟩ d hd;rcases List.mem_append.1 hd with h|h
  ·exact h1 d h
  ·exact h2 d h
theorem q1t {l:List Nat} (h:okw l) (n:Nat):okw (l.take n):=fun d hd=>h d (List.mem_of_mem_take hd)
theorem q2v {l:List Nat} (h:okw l) (n:Nat):okw (l.drop n):=fun d hd=>h d (List.mem_of_mem_drop hd)
theorem q05 {l:List Nat} (h:okw l) (i:Nat):l.getD i 0<2^64:=by
 by_cases hi:i<l.length
 ·rw[List.getD_eq_getElem?_getD,List.getElem?_eq_getElem hi];exact h _ (List.getElem_mem hi)
 ·rw[List.getD_eq_getElem?_getD,List.getElem?_eq_none (by omega)];simp
theorem q4r {l:List Nat} (h:okw l) (i x:Nat) (hx:x<2^64):okw (l.set i x):=fun d hd=>by
 rcases List.mem_or_eq_of_mem_set hd with h1|h1
 ·exact h d h1
 ·rw[h1];exact hx
theorem q0v {l:List Nat} (h:okw l):val l<2^(64*l.length):=by
 induction l with
 |nil=>simp [val]
 |cons d l ih=>
  obtain⟨h1,h2⟩:=okw_cons.1 h;have h3:=ih h2;simp only[val,List.length_cons];rw[show 64*(l.length+1)=64+64*l.length from by omega,Nat.pow_add];have:2^64*(val l+1)≤2^64*2^(64*l.length):=Nat.mul_le_mul_left _ h3;rw[Nat.mul_add] at this;omega
theorem q1n {l:List Nat} {k:Nat} (h:k<l.length):l.take (k+1)=l.take k++[l.getD k 0]:=by
 rw[List.take_succ_eq_append_getElem h]
 congr 2
 rw[List.getD_eq_getElem?_getD,List.getElem?_eq_getElem h];rfl
theorem q1h (d:Nat):val [d]=d:=by simp [val]
theorem q0M {l:List Nat} {k:Nat} (h:k<l.length):val (l.take (k+1))=val (l.take k)+2^(64*k)*l.getD k 0:=by
 rw[q1n h,val_append,q1h,List.length_take,Nat.min_eq_left (by omega)]
theorem q07 (l:List Nat) (k:Nat):val (l.take (k+1))=val (l.take k)+2^(64*k)*l.getD k 0:=by
 by_cases h:k<l.length
 ·exact q0M h
 ·rw[List.take_of_length_le (by omega),List.take_of_length_le (by omega),List.getD_eq_getElem?_getD,List.getElem?_eq_none (by omega)];simp
theorem q0B (l:List Nat) (k:Nat) (h:k≤l.length):val l=val (l.take k)+2^(64*k)*val (l.drop k):=by
 have h1:=val_append (l.take k) (l.drop k);rw[List.take_append_drop,List.length_take,Nat.min_eq_left h] at h1;exact h1
theorem q0H {l:List Nat} {k x:Nat}:(l.set k x).take k=l.take k:=by
 rw[List.take_set];exact List.set_eq_of_length_le (by simp;omega)
theorem q0g {l:List Nat} {k x:Nat} (h:k<l.length):(l.set k x).getD k 0=x:=by
 rw[List.getD_eq_getElem?_getD];simp [h]
theorem q0j {l:List Nat} {k x:Nat} (h:k<l.length):val ((l.set k x).take (k+1))=val (l.take k)+2^(64*k)*x:=by
 rw[q0M (by simpa using h),q0H,q0g h]
theorem q14 {l:List Nat} (h:canon l) (hn:l≠[]):2^(64*(l.length-1))≤val l:=by
 have h1:=h.2 hn;have h2:=List.dropLast_concat_getLast hn;have h3:=val_append l.dropLast [l.getLast hn];rw[h2,q1h,List.length_dropLast] at h3;have h4:2^(64*(l.length-1))*1≤2^(64*(l.length-1))*l.getLast hn:=Nat.mul_le_mul_left _ (by omega);omega
theorem q0Y:canon []:=⟨q1f,fun h=>absurd rfl h⟩
theorem q0V {l:List Nat} (h:canon l):val l=0↔l=[]:=by
 constructor
 ·intro h0;by_cases hn:l=[]
  ·exact hn
  ·have:=q14 h hn;have:=Nat.two_pow_pos (64*(l.length-1));omega
 ·rintro rfl;rfl
theorem q0J {l m:List Nat} (hl:canon l) (hm:canon m) (h:l.length<m.length):val l<val m:=by
 have h1:=q0v hl.1;have hn:m≠[]:=by intro e;rw[e] at h;simp at h
 have h2:=q14 hm hn;have h3:2^(64*l.length)≤2^(64*(m.length-1)):=Nat.pow_le_pow_right (by omega) (by omega);omega
/-- A canonical row is short where its number is small. -/
theorem q06 {l:List Nat} (h:canon l) {k:Nat} (hv:val l<2^(64*k)):l.length≤k:=by
 by_cases hn:l=[]
 ·rw[hn];simp
 ·have h1:=q14 h hn;have h2:2^(64*(l.length-1))<2^(64*k):=by omega
  have h3:=(Nat.pow_lt_pow_iff_right (by omega:1<2)).1 h2;have:l.length≠0:=fun e=>hn (List.eq_nil_of_length_eq_zero e);omega
theorem q0h {l:List Nat} {k:Nat} (h:k<l.length):l.drop k=l.getD k 0::l.drop (k+1):=by
 rw[List.drop_eq_getElem_cons h]
 congr 1
 rw[List.getD_eq_getElem?_getD,List.getElem?_eq_getElem h];rfl
theorem q0t {l:List Nat} {k:Nat} (h:k<l.length):val l=val (l.take k)+2^(64*k)*(l.getD k 0+2^64*val (l.drop (k+1))):=by
 rw[q0B l k (by omega),q0h h];rfl
theorem q0u {l:List Nat} (h:okw l) (k:Nat) (hk:k≤l.length):val (l.take k)<2^(64*k):=by
 have:=q0v (q1t h k)
 rwa[List.length_take,Nat.min_eq_left hk] at this
/-- The first word from above that parts decides. -/
theorem q3g {l m:List Nat} {k:Nat} (hl:okw l) (h1:k<l.length) (h2:k<m.length) (hd:val (l.drop (k+1))=val (m.drop (k+1))) (hlt:l.getD k 0<m.getD k 0):val l<val m:=by
 rw[q0t h1,q0t h2,hd];have h3:=q0u hl k (by omega);have h4:2^(64*k)*(l.getD k 0+2^64*val (m.drop (k+1))+1)≤2^(64*k)*(m.getD k 0+2^64*val (m.drop (k+1))):=Nat.mul_le_mul_left _ (by omega);rw[Nat.mul_add,Nat.mul_one] at h4;omega
/-! Rows in memory. -/
/-- From place o of block b on lie the words of l. -/
def Row (w:World) (b o:Nat) (l:List Nat):Prop:=∀ i,i<l.length→w.cell? ⟨b,o+i,none⟩=some (.int .u64 (l.getD i 0:Nat))
/-- v is a slice of just these words. -/
def Sl (w:World) (v:Value) (l:List Nat):Prop:=
 okw l∧((l=[]∧∃ a c,v= .slice a 0 c)∨∃ b o c,v= .slice (some ⟨b,o,none⟩) l.length c∧l.length≤c∧b<w.heap.size∧Row w b o l)
/-- v is the canonical slice of n. -/
def Num (w:World) (v:Value) (n:Nat):Prop:=∃ l,Sl w v l∧canon l∧val l=n
/-- A row of our own: block b, from its beginning, may be written. -/
def Own (w:World) (b:Nat) (l:List Nat):Prop:=okw l∧b<w.heap.size∧Row w b 0 l∧∀ i,i<l.length→w.frozen? ⟨b,i,none⟩=false
/-- A call hands back the canonical slice of n; nothing that was there has turned. -/
def q0e (w:World) (n:Nat) (e:Ending) (w':World):Prop:=∃ v,e= .returned v∧G w w'∧Num w' v n
theorem Row.G {w w':World} {b o:Nat} {l:List Nat} (h:Row w b o l) (hb:b<w.heap.size) (g:G w w'):Row w' b o l:=fun i hi=>g.cell hb (h i hi)
theorem Sl.G {w w':World} {v:Value} {l:List Nat} (h:Sl w v l) (g:G w w'):Sl w' v l:=by
 obtain⟨h1,h2⟩:=h;refine⟨h1,?_⟩;rcases h2 with h2|⟨b,o,c,e,hc,hb,hr⟩
 ·exact Or.inl h2
 ·exact Or.inr ⟨b,o,c,e,hc,Nat.lt_of_lt_of_le hb g.size,hr.G hb g⟩
theorem Num.G {w w':World} {v:Value} {n:Nat} (h:Num w v n) (g:G w w'):Num w' v n:=by
 obtain⟨l,h1,h2⟩:=h;exact⟨l,h1.G g,h2⟩
theorem Own.sl {w:World} {b:Nat} {l:List Nat} (h:Own w b l) (c:Nat) (hc:l.length≤c):Sl w (.slice (some ⟨b,0,none⟩) l.length c) l:=
 ⟨h.1,Or.inr ⟨b,0,c,rfl,hc,h.2.1,h.2.2.1⟩⟩
/-- A store into a row of our own. -/
theorem Own.set {w:World} {b:Nat} {l:List Nat} (h:Own w b l) (i x:Nat) (hi:i<l.length) (hx:x<2^64):
  Own (w.setCell ⟨b,i,none⟩ (.int .u64 (x:Int))) b (l.set i x):=by
 obtain⟨h1,h2,h3,h4⟩:=h;refine⟨q4r h1 i x hx,by simpa using h2,fun j hj=> ?_,fun j hj=>by rw[World.frozen?_setCell];exact h4 j (by simpa using hj)⟩;have hj':j<l.length:=by simpa using hj
 have hc:=h3 j hj';rw[Nat.zero_add] at hc ⊢;by_cases e:i=j
 ·subst e;rw[World.cell?_setCell_same _ _ _ hc,q0g hi]
 ·rw[World.cell?_setCell_other _ _ _ _ (by intro h;apply e;injection h),hc]
  congr 3
  rw[List.getD_eq_getElem?_getD,List.getD_eq_getElem?_getD,List.getElem?_set_ne e]
theorem Own.frozen {w:World} {b:Nat} {l:List Nat} (h:Own w b l) {i:Nat} (hi:i<l.length):w.frozen? ⟨b,i,none⟩=false:=h.2.2.2 i hi
theorem Own.cell {w:World} {b:Nat} {l:List Nat} (h:Own w b l) {i:Nat} (hi:i<l.length):w.cell? ⟨b,i,none⟩=some (.int .u64 (l.getD i 0:Nat)):=by
 have:=h.2.2.1 i hi
 rwa[Nat.zero_add] at this
/-- Rows of others stand still under a store into ours. -/
theorem Row.set {w:World} {b o c i:Nat} {l:List Nat} {u:Value} (h:Row w b o l) (hb:b≠c):Row (w.setCell ⟨c,i,none⟩ u) b o l:=fun j hj=>by
 rw[World.cell?_setCell_other _ _ _ _ (by intro e;apply hb;injection e with e1;exact e1.symm)];exact h j hj
theorem Own.grow {w w':World} {b:Nat} {l:List Nat} (h:Own w b l) (g:G w w'):Own w' b l:=
 ⟨h.1,Nat.lt_of_lt_of_le h.2.1 g.size,h.2.2.1.G h.2.1 g,fun i hi=>g.frozen h.2.1 (h.2.2.2 i hi)⟩
/-- A row that 'make' lays. -/
theorem q0C (w:World) (n:Nat) (e:TypeId):Own (w.alloc (.cells (madeCells #[.int .u64 0] n) e)) w.heap.size (List.replicate n 0):=by
 refine⟨fun d hd=>by rw[List.eq_of_mem_replicate hd];omega,by simp,fun i hi=> ?_,fun i hi=>World.frozen?_alloc_at _ _ _ _ rfl⟩;have hi':i<n:=by simpa using hi
 rw[Nat.zero_add,World.cell?_alloc_at _ _ _ _ rfl];have ht:=toList_madeCells_one (.int .u64 0) n;have hg:(madeCells #[Value.int .u64 0] n)[i]? =some (.int .u64 0):=by
  rw[← Array.getElem?_toList,ht];simp [hi']
 rw[hg]
 congr 2
 rw[List.getD_eq_getElem?_getD];simp [hi']
end Go.Proofs.YtbfjihniphldaaaGreatDoor.EN
namespace Go.Proofs.YtbfjihniphldaaaGreatDoor.EN
open Go.ChangeShapes Go.WideShapes Go.ChangeAt Go.RowKit
theorem Sl.cases {w:World} {v:Value} {l:List Nat} (h:Sl w v l):
  (l=[]∧∃ a c,v= .slice a 0 c)∨(l≠[]∧∃ b o c,v= .slice (some ⟨b,o,none⟩) l.length c∧l.length≤c∧b<w.heap.size∧Row w b o l):=by
 obtain⟨-,h|⟨b,o,c,e,hc,hb,hr⟩⟩:=h
 ·exact Or.inl h
 ·by_cases hl:l=[]
  ·subst hl;exact Or.inl ⟨rfl,_,c,e⟩
  ·exact Or.inr ⟨hl,b,o,c,e,hc,hb,hr⟩
theorem q2O {l:List Nat} (h:okw l) (k:Nat) (hk:k<l.length) (hd:l.getD k 0≠0):canon (l.take (k+1)):=by
 refine⟨q1t h _,fun hn=> ?_⟩;have e:=q1n hk;have:(l.take (k+1)).getLast hn=l.getD k 0:=by
  have:∀ (m:List Nat) (hm:m≠[]),m=l.take k++[l.getD k 0]→m.getLast hm=l.getD k 0:=by
   intro m hm hme;subst hme;simp
  exact this _ hn e
 rw[this];exact hd
theorem trim_c (w:World) (v:Value) (l:List Nat) (hs:Sl w v l) (hl:l.length≤1048576):
  Calls Tryz.prog 132 #[v] w (q0e w (val l)):=by
 have hok:=hs.1;rcases Sl.cases hs with ⟨rfl,a,c,rfl⟩|⟨hne,b,o,c,rfl,hc,hb,hr⟩
 ·cases a
  all_goals
   go_enter Tryz.func132,Tryz.ntmps132;go_wp2;refine wp_loop_rounds 1 ?_;rw[rounds_succ];go_wp2;go_ret;exact⟨_,rfl,G.refl _,[],⟨q1f,Or.inl ⟨rfl,_,_,rfl⟩⟩,q0Y,rfl⟩
 ·generalize hn:l.length=n at *;have HR:Hid _:=hr;have HN:Hid _:=hn;clear hr hn hs;go_enter Tryz.func132,Tryz.ntmps132;go_wp2
  go_loop [3] (fun vk=>∃ k:Nat,k≤n∧vk= .int .i64 k∧val (l.take k)=val l) (fun vk=>(intOf vk).toNat)
  case atStart=>exact⟨n,Nat.le_refl _,rfl,by rw[← HN.out,List.take_length]⟩
  case round=>
   obtain⟨k,hk,rfl,hv⟩:=hrel;have HV:Hid _:=hv;clear hv;cases k with
   |zero=>
    go_wp2;go_ret;have hv0:val l=0:=by rw[← HV.out];simp [val]
    exact⟨_,rfl,G.refl _,[],⟨q1f,Or.inl ⟨rfl,_,_,rfl⟩⟩,q0Y,by rw[hv0];rfl⟩
   |succ k=>
    have hcell:=HR.out k (by rw[HN.out];omega);have hlt:k<l.length:=by rw[HN.out];omega
    have hvs:=q0M hlt;have hct:=q2O hok k hlt;generalize l.getD k 0=d at hcell hvs hct;by_cases hd:d=0
    ·subst hd;have HS:Hid _:=hvs;clear hvs hct hlt;go_wp2
     go_round
     case rel=>exact⟨k,by omega,by go_num,by rw[← HV.out,HS.out];simp⟩
     case measure=>simp [intOf]
    ·have hd2:((d:Int)==0)=false:=by simp;omega
     have HC:Hid _:=hct;clear hvs hct;go_wp2;go_ret;refine⟨_,rfl,G.refl _,l.take (k+1),⟨q1t hok _,Or.inr ⟨b,o,c,?_,?_,hb,fun i hi=> ?_⟩⟩,HC.out hd,HV.out⟩
     ·rw[List.length_take,HN.out,Nat.min_eq_left (by omega)];simp
     ·rw[List.length_take];omega
     ·have hi':i<k+1:=by rw[List.length_take] at hi;omega
      have:=HR.out i (by rw[HN.out];omega);rw[this]
      congr 3
      rw[List.getD_eq_getElem?_getD,List.getD_eq_getElem?_getD,List.getElem?_take_of_lt hi']
/-- The cells of a slice, in a form that serves the empty one too. -/
theorem q0n {w:World} {v:Value} {l:List Nat} (h:Sl w v l):∃ a c,v= .slice a l.length c∧l.length≤c∧∀ i,i<l.length→∃ b o,a=some ⟨b,o,none⟩∧b<w.heap.size∧w.cell? ⟨b,o+i,none⟩=some (.int .u64 (l.getD i 0:Nat)):=by
 rcases Sl.cases h with ⟨rfl,a,c,rfl⟩|⟨hne,b,o,c,rfl,hc,hb,hr⟩
 ·exact⟨a,c,rfl,Nat.zero_le _,fun i hi=>by simp at hi⟩
 ·exact⟨_,c,rfl,hc,fun i hi=>⟨b,o,rfl,hb,hr i hi⟩⟩
theorem q3V (w:World) (d:Nat) (e:TypeId) (h0:d<2^64):
  Sl (w.alloc (.cells #[.int .u64 (d:Int)] e)) (.slice (some ⟨w.heap.size,0,none⟩) 1 1) [d]:=by
 refine⟨fun x hx=> ?_,Or.inr ⟨w.heap.size,0,1,rfl,Nat.le_refl _,by simp,fun i hi=> ?_⟩⟩
 ·simp at hx;subst hx;exact h0
 ·rw[Nat.zero_add,World.cell?_alloc_at _ _ _ _ rfl];have:i=0:=by simp at hi;omega
  subst this;rfl
theorem q5l (w:World) (x:Nat) (hx:x<2^64):
  Calls Tryz.prog 170 #[.int .u64 x] w (q0e w x):=by
 have hT:Hid _:=fun w=>trim_c _ _ _ (q3V w x 85 hx) (by simp);rw[q1h] at hT;go_enter Tryz.func170,Tryz.ntmps170;go_wp2_with fail;refine(hT.out w).mono ?_;rintro e w1 ⟨v1,rfl,hb1,hn1⟩;go_wp2;go_ret;exact⟨v1,rfl,G.trans ((G.refl _).alloc _) hb1,hn1⟩
theorem qck (w:World) (v:Value) (n K:Nat) (hv:Num w v n) (hn:n<2^(64*K)):
  Calls Tryz.prog 114 #[v] w fun e w'=>e= .returned (.bool (decide (n=1)))∧G w w':=by
 obtain⟨l,hl,hcl,rfl⟩:=hv;have hll:=q06 hcl hn;obtain⟨p,c,rfl,hc,hr⟩:=q0n hl;by_cases h1:l.length=1
 ·obtain⟨d,rfl⟩:∃ d,l=[d]:=by
   match l,h1 with
   |[d],_=>exact⟨d,rfl⟩
  obtain⟨b,o,rfl,hb,hcell⟩:=hr 0 (by simp);rw[Nat.add_zero] at hcell;have hg:([d]:List Nat).getD 0 0=d:=rfl;rw[hg] at hcell;rw[q1h];have t1:((([d]:List Nat).length:Nat):Int)=1:=rfl;have t2:((d:Int)==1)=decide (d=1):=by
   by_cases h:d=1
   ·subst h;rfl
   ·rw[decide_eq_false h];simp;omega
  clear hr hll hn hc hl hcl h1;go_enter Tryz.func114,Tryz.ntmps114;go_wp2;go_ret;exact⟨rfl,G.refl _⟩
 ·have hd:¬ val l=1:=by
   intro he;have h2:l.length≤1:=q06 hcl (k:=1) (by rw[he];exact Nat.one_lt_two_pow (by omega));have h3:l=[]:=List.eq_nil_of_length_eq_zero (by omega);rw[h3] at he;cases he
  rw[decide_eq_false hd];have t1:((l.length:Int)==1)=false:=by simp;omega
  generalize l.length=n at *;clear hr hc hl hcl hd hn h1;go_enter Tryz.func114,Tryz.ntmps114;go_wp2;go_ret;exact⟨rfl,G.refl _⟩
def cmpV (a b:Nat):Int:=if a<b then -1 else if a=b then 0 else 1
def cmpZ (a b:Int):Int:=if a<b then -1 else if a=b then 0 else 1
theorem q8f (x:Int) (w:World):Calls Tryz.prog 222 #[.int .i64 x] w fun e w'=>e= .returned (.bool false)∧G w w':=by
 have t:(x != x)=false:=by simp
 go_enter Tryz.func222,Tryz.ntmps222;go_wp2;go_ret;exact⟨rfl,G.refl _⟩
theorem q3A (x y:Int) (w:World):Calls Tryz.prog 179 #[.int .i64 x,.int .i64 y] w fun e w'=>e= .returned (.int .i64 (cmpZ x y))∧G w w':=by
 have K:Hid _:=fun x w=>q8f x w;unfold cmpZ;by_cases h1:x<y
 ·rw[if_pos h1];have t1:decide (x<y)=true:=decide_eq_true h1;clear h1;go_enter Tryz.func179,Tryz.ntmps179;go_wp2_with (first|(go_at_call 222;refine(K.out _ _).mono ?_;rintro e wn ⟨rfl,hbn⟩));go_ret;exact⟨rfl,(by repeat' (first|exact G.refl _|assumption|refine G.alloc ?_ _|refine G.drew ?_ |refine G.drewN ?_ _|(refine G.trans ?_ (by assumption))))⟩
 ·rw[if_neg h1];have t1:decide (x<y)=false:=decide_eq_false h1;by_cases h2:x=y
  ·rw[if_pos h2];have t2:decide (y<x)=false:=decide_eq_false (by omega);clear h1 h2;go_enter Tryz.func179,Tryz.ntmps179;go_wp2_with (first|(go_at_call 222;refine(K.out _ _).mono ?_;rintro e wn ⟨rfl,hbn⟩));go_ret;exact⟨rfl,(by repeat' (first|exact G.refl _|assumption|refine G.alloc ?_ _|refine G.drew ?_ |refine G.drewN ?_ _|(refine G.trans ?_ (by assumption))))⟩
  ·rw[if_neg h2];have t2:decide (y<x)=true:=decide_eq_true (by omega);clear h1 h2;go_enter Tryz.func179,Tryz.ntmps179;go_wp2_with (first|(go_at_call 222;refine(K.out _ _).mono ?_;rintro e wn ⟨rfl,hbn⟩));go_ret;exact⟨rfl,(by repeat' (first|exact G.refl _|assumption|refine G.alloc ?_ _|refine G.drew ?_ |refine G.drewN ?_ _|(refine G.trans ?_ (by assumption))))⟩
theorem q8o (x:Int) (w:World):Calls Tryz.prog 223 #[.int .u64 x] w fun e w'=>e= .returned (.bool false)∧G w w':=by
 have t:(x != x)=false:=by simp
 go_enter Tryz.func223,Tryz.ntmps223;go_wp2;go_ret;exact⟨rfl,G.refl _⟩
theorem q3t (x y:Int) (w:World):Calls Tryz.prog 180 #[.int .u64 x,.int .u64 y] w fun e w'=>e= .returned (.int .i64 (cmpZ x y))∧G w w':=by
 have K:Hid _:=fun x w=>q8o x w;unfold cmpZ;by_cases h1:x<y
 ·rw[if_pos h1];have t1:decide (x<y)=true:=decide_eq_true h1;clear h1;go_enter Tryz.func180,Tryz.ntmps180;go_wp2_with (first|(go_at_call 223;refine(K.out _ _).mono ?_;rintro e wn ⟨rfl,hbn⟩));go_ret;exact⟨rfl,(by repeat' (first|exact G.refl _|assumption|refine G.alloc ?_ _|refine G.drew ?_ |refine G.drewN ?_ _|(refine G.trans ?_ (by assumption))))⟩
 ·rw[if_neg h1];have t1:decide (x<y)=false:=decide_eq_false h1;by_cases h2:x=y
  ·rw[if_pos h2];have t2:decide (y<x)=false:=decide_eq_false (by omega);clear h1 h2;go_enter Tryz.func180,Tryz.ntmps180;go_wp2_with (first|(go_at_call 223;refine(K.out _ _).mono ?_;rintro e wn ⟨rfl,hbn⟩));go_ret;exact⟨rfl,(by repeat' (first|exact G.refl _|assumption|refine G.alloc ?_ _|refine G.drew ?_ |refine G.drewN ?_ _|(refine G.trans ?_ (by assumption))))⟩
  ·rw[if_neg h2];have t2:decide (y<x)=true:=decide_eq_true (by omega);clear h1 h2;go_enter Tryz.func180,Tryz.ntmps180;go_wp2_with (first|(go_at_call 223;refine(K.out _ _).mono ?_;rintro e wn ⟨rfl,hbn⟩));go_ret;exact⟨rfl,(by repeat' (first|exact G.refl _|assumption|refine G.alloc ?_ _|refine G.drew ?_ |refine G.drewN ?_ _|(refine G.trans ?_ (by assumption))))⟩
theorem q2H (w:World) (va vb:Value) (a b K:Nat) (hK:K≤1048576) (ha:Num w va a) (hb:Num w vb b) (ha2:a<2^(64*K)) (hb2:b<2^(64*K)):
  Calls Tryz.prog 123 #[va,vb] w fun e w'=>e= .returned (.int .i64 (cmpV a b))∧G w w':=by
 obtain⟨l,hl,hcl,rfl⟩:=ha;obtain⟨m,hm,hcm,rfl⟩:=hb;have hll:=q06 hcl ha2;have pR:=q06 hcm hb2;clear ha2 hb2;have aN:=hl.1;have fO:=hm.1;obtain⟨pa,ca,rfl,dL,hra⟩:=q0n hl;obtain⟨pb,cb,rfl,hcb,hrb⟩:=q0n hm;have HA:Hid _:=hra;have HB:Hid _:=hrb;clear hra hrb hl hm;by_cases hne:l.length=m.length
 ·generalize hn:m.length=n at *;have HN:Hid _:=hne;have HM:Hid _:=hn;rw[hne];have hb1:(n:Int)≤1048576:=by omega
  have hnn:((n:Int) != (n:Int))=false:=by simp
  clear hne hn hll pR dL hcb;go_enter Tryz.func123,Tryz.ntmps123;go_wp2
  go_loopw [5] (fun vk wr=>∃ k:Nat,k≤n∧vk= .int .i64 ((k:Int)-1)∧val (l.drop k)=val (m.drop k)∧G w wr) (fun vk _=>(intOf vk+1).toNat)
  case atStart=>exact⟨n,Nat.le_refl _,rfl,by rw[List.drop_of_length_le (by rw[HN.out];exact Nat.le_refl _),List.drop_of_length_le (by rw[HM.out];exact Nat.le_refl _)],G.refl _⟩
  case round=>
   obtain⟨k,hk,rfl,hv,hG⟩:=hrel;have HV:Hid _:=hv;clear hv;cases k with
   |zero=>
    go_wp2;go_ret;have hv0:val l=val m:=by have:=HV.out;simpa using this
    exact⟨q0x (by unfold cmpV;rw[if_neg (by omega),if_pos hv0]),hG⟩
   |succ k=>
    obtain⟨b1,o1,rfl,hB1,hc1'⟩:=HA.out k (by rw[HN.out];omega);obtain⟨b2,o2,rfl,hB2,hc2'⟩:=HB.out k (by omega);have hc1:=hG.cell (p:=⟨b1,o1+k,none⟩) hB1 hc1';have hc2:=hG.cell (p:=⟨b2,o2+k,none⟩) hB2 hc2';have hs1:b1<wr.heap.size:=Nat.lt_of_lt_of_le hB1 hG.size;have hs2:b2<wr.heap.size:=Nat.lt_of_lt_of_le hB2 hG.size;clear hc1' hc2' hB1 hB2;have hk1:k<l.length:=by rw[HN.out];omega
    have hk2:k<m.length:=by rw[HM.out];omega
    have hlt:=q3g aN hk1 hk2 HV.out;have hgt:=q3g fO hk2 hk1 HV.out.symm;have heq:l.getD k 0=m.getD k 0→val (l.drop k)=val (m.drop k):=by
     intro h;rw[q0h hk1,q0h hk2,h];show _+2^64*_=_+2^64*_;rw[HV.out]
    generalize l.getD k 0=x at *;generalize m.getD k 0=y at *;have H1:Hid _:=hlt;have H2:Hid _:=hgt;have H3:Hid _:=heq;clear hlt hgt heq hk1 hk2;by_cases hxy:x=y
    ·subst hxy;have ht:((x:Int) != x)=false:=by simp
     go_wp2_with fail;refine q0f (by kernel_rfl) (by kernel_rfl) ?_;intro W hW;have hq1:=q08 (w:=W) (a:=⟨b1,o1+k,none⟩) (x:= .int .u64 (x:Int)) (by rw[hW];first|(simp;done)|(simp;omega)|omega) (by rw[hW];first|assumption|(simp [go_sem];done)|(simp [*,go_sem];done));have hq2:=q08 (w:=W) (a:=⟨b2,o2+k,none⟩) (x:= .int .u64 (x:Int)) (by rw[hW];first|(simp;done)|(simp;omega)|omega) (by rw[hW];first|assumption|(simp [go_sem];done)|(simp [*,go_sem];done));clear hW
     repeat (go_big_quiet_step (fail))
     refine wpQuiet_nil ?_;clear hq1 hq2;intro w1 hw1;clear hc1 hc2;go_wp2
     go_roundw
     case rel=>exact⟨k,by omega,by congr 1,H3.out (by trivial),G.trans hG hw1⟩
     case measure=>simp [intOf]
    ·have ht:((x:Int) != y)=true:=by simp;omega
     by_cases hx:x<y
     ·have hx':(x:Int)<y:=by omega
      go_wp2_with fail;refine q0f (by kernel_rfl) (by kernel_rfl) ?_;intro W hW;have hq3:=q08 (w:=W) (a:=⟨b1,o1+k,none⟩) (x:= .int .u64 (x:Int)) (by rw[hW];first|(simp;done)|(simp;omega)|omega) (by rw[hW];first|assumption|(simp [go_sem];done)|(simp [*,go_sem];done));have hq4:=q08 (w:=W) (a:=⟨b2,o2+k,none⟩) (x:= .int .u64 (y:Int)) (by rw[hW];first|(simp;done)|(simp;omega)|omega) (by rw[hW];first|assumption|(simp [go_sem];done)|(simp [*,go_sem];done));clear hW
      repeat (go_big_quiet_step (fail))
      refine wpQuiet_nil ?_;clear hq3 hq4;intro w1 hw1;have hd1:=hw1.cell hs1 hc1;have hd2:=hw1.cell hs2 hc2;have hs3:b1<w1.heap.size:=Nat.lt_of_lt_of_le hs1 hw1.size;have hs4:b2<w1.heap.size:=Nat.lt_of_lt_of_le hs2 hw1.size;clear hc1 hc2;go_wp2_with fail;refine q0f (by kernel_rfl) (by kernel_rfl) ?_;intro W hW;have pQ:=q08 (w:=W) (a:=⟨b1,o1+k,none⟩) (x:= .int .u64 (x:Int)) (by rw[hW];first|(simp;done)|(simp;omega)|omega) (by rw[hW];first|assumption|(simp [go_sem];done)|(simp [*,go_sem];done));have qp:=q08 (w:=W) (a:=⟨b2,o2+k,none⟩) (x:= .int .u64 (y:Int)) (by rw[hW];first|(simp;done)|(simp;omega)|omega) (by rw[hW];first|assumption|(simp [go_sem];done)|(simp [*,go_sem];done));clear hW
      repeat (go_big_quiet_step ((go_at_call 180;exact q2u (q3t _ _ _))))
      refine wpQuiet_nil ?_;clear pQ qp;intro w2 hw2;go_wp2_with fail;go_ret;have:=H1.out hx;exact⟨q0x (by unfold cmpV cmpZ;rw[if_pos this,if_pos hx']),G.trans (G.trans hG hw1) hw2⟩
     ·have hx':¬ (x:Int)<y:=by omega
      go_wp2_with fail;refine q0f (by kernel_rfl) (by kernel_rfl) ?_;intro W hW;have qw:=q08 (w:=W) (a:=⟨b1,o1+k,none⟩) (x:= .int .u64 (x:Int)) (by rw[hW];first|(simp;done)|(simp;omega)|omega) (by rw[hW];first|assumption|(simp [go_sem];done)|(simp [*,go_sem];done));have hq8:=q08 (w:=W) (a:=⟨b2,o2+k,none⟩) (x:= .int .u64 (y:Int)) (by rw[hW];first|(simp;done)|(simp;omega)|omega) (by rw[hW];first|assumption|(simp [go_sem];done)|(simp [*,go_sem];done));clear hW
      repeat (go_big_quiet_step (fail))
      refine wpQuiet_nil ?_;clear qw hq8;intro w1 hw1;have hd1:=hw1.cell hs1 hc1;have hd2:=hw1.cell hs2 hc2;have hs3:b1<w1.heap.size:=Nat.lt_of_lt_of_le hs1 hw1.size;have hs4:b2<w1.heap.size:=Nat.lt_of_lt_of_le hs2 hw1.size;clear hc1 hc2;go_wp2_with fail;refine q0f (by kernel_rfl) (by kernel_rfl) ?_;intro W hW;have wy:=q08 (w:=W) (a:=⟨b1,o1+k,none⟩) (x:= .int .u64 (x:Int)) (by rw[hW];first|(simp;done)|(simp;omega)|omega) (by rw[hW];first|assumption|(simp [go_sem];done)|(simp [*,go_sem];done));have mE:=q08 (w:=W) (a:=⟨b2,o2+k,none⟩) (x:= .int .u64 (y:Int)) (by rw[hW];first|(simp;done)|(simp;omega)|omega) (by rw[hW];first|assumption|(simp [go_sem];done)|(simp [*,go_sem];done));clear hW
      repeat (go_big_quiet_step ((go_at_call 180;exact q2u (q3t _ _ _))))
      refine wpQuiet_nil ?_;clear wy mE;intro w2 hw2;go_wp2_with fail;go_ret;have:=H2.out (by omega);exact⟨q0x (by unfold cmpV cmpZ;rw[if_neg (by omega),if_neg (by omega),if_neg (by omega),if_neg (by omega)]),G.trans (G.trans hG hw1) hw2⟩
 ·have h1:=fun h=>q0J hcl hcm h;have h2:=fun h=>q0J hcm hcl h;have hne':((l.length:Int) != (m.length:Int))=true:=by simp;omega
  by_cases hlt:l.length<m.length
  ·have hv:cmpV (val l) (val m)= -1:=by unfold cmpV;rw[if_pos (h1 hlt)]
   rw[hv];clear h1 h2 hv;generalize l.length=n at *;generalize m.length=k at *;have hz:cmpZ (n:Int) k= -1:=by unfold cmpZ;rw[if_pos (by omega)]
   go_enter Tryz.func123,Tryz.ntmps123;go_wp2_with fail;refine(q3A n k _).mono ?_;rintro e w2 ⟨rfl,hw2⟩;go_wp2_with fail;go_ret;exact⟨q0x (by first|rfl|exact hz),hw2⟩
  ·have hlt2:m.length<l.length:=by omega
   have hv:cmpV (val l) (val m)=1:=by unfold cmpV;rw[if_neg (by have:=h2 hlt2;omega),if_neg (by have:=h2 hlt2;omega)]
   rw[hv];clear h1 h2 hv;generalize l.length=n at *;generalize m.length=k at *;have hz:cmpZ (n:Int) k=1:=by unfold cmpZ;rw[if_neg (by omega),if_neg (by omega)]
   go_enter Tryz.func123,Tryz.ntmps123;go_wp2_with fail;refine(q3A n k _).mono ?_;rintro e w2 ⟨rfl,hw2⟩;go_wp2_with fail;go_ret;exact⟨q0x (by first|rfl|exact hz),hw2⟩
end Go.Proofs.YtbfjihniphldaaaGreatDoor.EN
namespace Go.Proofs.YtbfjihniphldaaaGreatDoor.BN
open Go.RowKit
def val:List Nat→Nat
 |[]=>0
 |d::l=>d+2^32*val l
def okw (l:List Nat):Prop:=∀ d∈l,d<2^32
def canon (l:List Nat):Prop:=okw l∧∀ h:l≠[],l.getLast h≠0
theorem val_append (l m:List Nat):val (l++m)=val l+2^(32*l.length)*val m:=by
 induction l with
 |nil=>simp [val]
 |cons d l ih=>
  simp only[List.cons_append,val,ih,List.length_cons];rw[Nat.mul_add,← Nat.mul_assoc,← Nat.pow_add,show 32*(l.length+1)=32+32*l.length from by omega];omega
theorem q1f:okw []:=fun _ h=>by cases h
theorem okw_cons {d:Nat} {l:List Nat}:okw (d::l)↔d<2^32∧okw l:=by
 unfold okw;simp
theorem okw_append {l m:List Nat}:okw (l++m)↔okw l∧okw m:=by
 unfold okw;constructor
 ·intro h;exact⟨fun d hd=>h d (List.mem_append_left _ hd),fun d hd=>h d (List.mem_append_right _ hd)⟩
 ·rintro⟨h1,h2⟩ d hd;rcases List.mem_append.1 hd with h|h
  ·exact h1 d h
  ·exact h2 d h
theorem q1t {l:List Nat} (h:okw l) (n:Nat):okw (l.take n):=fun d hd=>h d (List.mem_of_mem_take hd)
theorem q2v {l:List Nat} (h:okw l) (n:Nat):okw (l.drop n):=fun d hd=>h d (List.mem_of_mem_drop hd)
theorem q05 {l:List Nat} (h:okw l) (i:Nat):l.getD i 0<2^32:=by
 by_cases hi:i<l.length
 ·rw[List.getD_eq_getElem?_getD,List.getElem?_eq_getElem hi];exact h _ (List.getElem_mem hi)
 ·rw[List.getD_eq_getElem?_getD,List.getElem?_eq_none (by omega)];simp
theorem q4r {l:List Nat} (h:okw l) (i x:Nat) (hx:x<2^32):okw (l.set i x):=fun d hd=>by
 rcases List.mem_or_eq_of_mem_set hd with h1|h1
 ·exact h d h1
 ·rw[h1];exact hx
theorem q0v {l:List Nat} (h:okw l):val l<2^(32*l.length):=by
 induction l with
 |nil=>simp [val]
 |cons d l ih=>
  obtain⟨h1,h2⟩:=okw_cons.1 h;have h3:=ih h2;simp only[val,List.length_cons];rw[show 32*(l.length+1)=32+32*l.length from by omega,Nat.pow_add];have:2^32*(val l+1)≤2^32*2^(32*l.length):=Nat.mul_le_mul_left _ h3;rw[Nat.mul_add] at this;omega
theorem q1n {l:List Nat} {k:Nat} (h:k<l.length):l.take (k+1)=l.take k++[l.getD k 0]:=by
 rw[List.take_succ_eq_append_getElem h]
 congr 2
 rw[List.getD_eq_getElem?_getD,List.getElem?_eq_getElem h];rfl
theorem q1h (d:Nat):val [d]=d:=by simp [val]
theorem q0M {l:List Nat} {k:Nat} (h:k<l.length):val (l.take (k+1))=val (l.take k)+2^(32*k)*l.getD k 0:=by
 rw[q1n h,val_append,q1h,List.length_take,Nat.min_eq_left (by omega)]
theorem q07 (l:List Nat) (k:Nat):val (l.take (k+1))=val (l.take k)+2^(32*k)*l.getD k 0:=by
 by_cases h:k<l.length
 ·exact q0M h
 ·rw[List.take_of_length_le (by omega),List.take_of_length_le (by omega),List.getD_eq_getElem?_getD,List.getElem?_eq_none (by omega)];simp
theorem q0B (l:List Nat) (k:Nat) (h:k≤l.length):val l=val (l.take k)+2^(32*k)*val (l.drop k):=by
 have h1:=val_append (l.take k) (l.drop k);rw[List.take_append_drop,List.length_take,Nat.min_eq_left h] at h1;exact h1
theorem q0H {l:List Nat} {k x:Nat}:(l.set k x).take k=l.take k:=by
 rw[List.take_set];exact List.set_eq_of_length_le (by simp;omega)
theorem q0g {l:List Nat} {k x:Nat} (h:k<l.length):(l.set k x).getD k 0=x:=by
 rw[List.getD_eq_getElem?_getD];simp [h]
theorem q0j {l:List Nat} {k x:Nat} (h:k<l.length):val ((l.set k x).take (k+1))=val (l.take k)+2^(32*k)*x:=by
 rw[q0M (by simpa using h),q0H,q0g h]
theorem q14 {l:List Nat} (h:canon l) (hn:l≠[]):2^(32*(l.length-1))≤val l:=by
 have h1:=h.2 hn;have h2:=List.dropLast_concat_getLast hn;have h3:=val_append l.dropLast [l.getLast hn];rw[h2,q1h,List.length_dropLast] at h3;have h4:2^(32*(l.length-1))*1≤2^(32*(l.length-1))*l.getLast hn:=Nat.mul_le_mul_left _ (by omega);omega
theorem q0Y:canon []:=⟨q1f,fun h=>absurd rfl h⟩
theorem q0V {l:List Nat} (h:canon l):val l=0↔l=[]:=by
 constructor
 ·intro h0;by_cases hn:l=[]
  ·exact hn
  ·have:=q14 h hn;have:=Nat.two_pow_pos (32*(l.length-1));omega
 ·rintro rfl;rfl
theorem q0J {l m:List Nat} (hl:canon l) (hm:canon m) (h:l.length<m.length):val l<val m:=by
 have h1:=q0v hl.1;have hn:m≠[]:=by intro e;rw[e] at h;simp at h
 have h2:=q14 hm hn;have h3:2^(32*l.length)≤2^(32*(m.length-1)):=Nat.pow_le_pow_right (by omega) (by omega);omega
/-- A canonical row is short where its number is small. -/
theorem q06 {l:List Nat} (h:canon l) {k:Nat} (hv:val l<2^(32*k)):l.length≤k:=by
 by_cases hn:l=[]
 ·rw[hn];simp
 ·have h1:=q14 h hn;have h2:2^(32*(l.length-1))<2^(32*k):=by omega
  have h3:=(Nat.pow_lt_pow_iff_right (by omega:1<2)).1 h2;have:l.length≠0:=fun e=>hn (List.eq_nil_of_length_eq_zero e);omega
theorem q0h {l:List Nat} {k:Nat} (h:k<l.length):l.drop k=l.getD k 0::l.drop (k+1):=by
 rw[List.drop_eq_getElem_cons h]
 congr 1
 rw[List.getD_eq_getElem?_getD,List.getElem?_eq_getElem h];rfl
theorem q0t {l:List Nat} {k:Nat} (h:k<l.length):val l=val (l.take k)+2^(32*k)*(l.getD k 0+2^32*val (l.drop (k+1))):=by
 rw[q0B l k (by omega),q0h h];rfl
theorem q0u {l:List Nat} (h:okw l) (k:Nat) (hk:k≤l.length):val (l.take k)<2^(32*k):=by
 have:=q0v (q1t h k)
 rwa[List.length_take,Nat.min_eq_left hk] at this
/-- The first word from above that parts decides. -/
theorem q3g {l m:List Nat} {k:Nat} (hl:okw l) (h1:k<l.length) (h2:k<m.length) (hd:val (l.drop (k+1))=val (m.drop (k+1))) (hlt:l.getD k 0<m.getD k 0):val l<val m:=by
 rw[q0t h1,q0t h2,hd];have h3:=q0u hl k (by omega);have h4:2^(32*k)*(l.getD k 0+2^32*val (m.drop (k+1))+1)≤2^(32*k)*(m.getD k 0+2^32*val (m.drop (k+1))):=Nat.mul_le_mul_left _ (by omega);rw[Nat.mul_add,Nat.mul_one] at h4;omega
/-! Rows in memory. -/
/-- From place o of block b on lie the words of l. -/
def Row (w:World) (b o:Nat) (l:List Nat):Prop:=∀ i,i<l.length→w.cell? ⟨b,o+i,none⟩=some (.int .u32 (l.getD i 0:Nat))
/-- v is a slice of just these words. -/
def Sl (w:World) (v:Value) (l:List Nat):Prop:=
 okw l∧((l=[]∧∃ a c,v= .slice a 0 c)∨∃ b o c,v= .slice (some ⟨b,o,none⟩) l.length c∧l.length≤c∧b<w.heap.size∧Row w b o l)
/-- v is the canonical slice of n. -/
def Num (w:World) (v:Value) (n:Nat):Prop:=∃ l,Sl w v l∧canon l∧val l=n
/-- A row of our own: block b, from its beginning, may be written. -/
def Own (w:World) (b:Nat) (l:List Nat):Prop:=okw l∧b<w.heap.size∧Row w b 0 l∧∀ i,i<l.length→w.frozen? ⟨b,i,none⟩=false
/-- A call hands back the canonical slice of n; nothing that was there has turned. -/
def q0e (w:World) (n:Nat) (e:Ending) (w':World):Prop:=∃ v,e= .returned v∧G w w'∧Num w' v n
theorem Row.G {w w':World} {b o:Nat} {l:List Nat} (h:Row w b o l) (hb:b<w.heap.size) (g:G w w'):Row w' b o l:=fun i hi=>g.cell hb (h i hi)
theorem Sl.G {w w':World} {v:Value} {l:List Nat} (h:Sl w v l) (g:G w w'):Sl w' v l:=by
 obtain⟨h1,h2⟩:=h;refine⟨h1,?_⟩;rcases h2 with h2|⟨b,o,c,e,hc,hb,hr⟩
 ·exact Or.inl h2
 ·exact Or.inr ⟨b,o,c,e,hc,Nat.lt_of_lt_of_le hb g.size,hr.G hb g⟩
theorem Num.G {w w':World} {v:Value} {n:Nat} (h:Num w v n) (g:G w w'):Num w' v n:=by
 obtain⟨l,h1,h2⟩:=h;exact⟨l,h1.G g,h2⟩
theorem Own.sl {w:World} {b:Nat} {l:List Nat} (h:Own w b l) (c:Nat) (hc:l.length≤c):Sl w (.slice (some ⟨b,0,none⟩) l.length c) l:=
 ⟨h.1,Or.inr ⟨b,0,c,rfl,hc,h.2.1,h.2.2.1⟩⟩
/-- A store into a row of our own. -/
theorem Own.set {w:World} {b:Nat} {l:List Nat} (h:Own w b l) (i x:Nat) (hi:i<l.length) (hx:x<2^32):
  Own (w.setCell ⟨b,i,none⟩ (.int .u32 (x:Int))) b (l.set i x):=by
 obtain⟨h1,h2,h3,h4⟩:=h;refine⟨q4r h1 i x hx,by simpa using h2,fun j hj=> ?_,fun j hj=>by rw[World.frozen?_setCell];exact h4 j (by simpa using hj)⟩;have hj':j<l.length:=by simpa using hj
 have hc:=h3 j hj';rw[Nat.zero_add] at hc ⊢;by_cases e:i=j
 ·subst e;rw[World.cell?_setCell_same _ _ _ hc,q0g hi]
 ·rw[World.cell?_setCell_other _ _ _ _ (by intro h;apply e;injection h),hc]
  congr 3
  rw[List.getD_eq_getElem?_getD,List.getD_eq_getElem?_getD,List.getElem?_set_ne e]
theorem Own.frozen {w:World} {b:Nat} {l:List Nat} (h:Own w b l) {i:Nat} (hi:i<l.length):w.frozen? ⟨b,i,none⟩=false:=h.2.2.2 i hi
theorem Own.cell {w:World} {b:Nat} {l:List Nat} (h:Own w b l) {i:Nat} (hi:i<l.length):w.cell? ⟨b,i,none⟩=some (.int .u32 (l.getD i 0:Nat)):=by
 have:=h.2.2.1 i hi
 rwa[Nat.zero_add] at this
/-- Rows of others stand still under a store into ours. -/
theorem Row.set {w:World} {b o c i:Nat} {l:List Nat} {u:Value} (h:Row w b o l) (hb:b≠c):Row (w.setCell ⟨c,i,none⟩ u) b o l:=fun j hj=>by
 rw[World.cell?_setCell_other _ _ _ _ (by intro e;apply hb;injection e with e1;exact e1.symm)];exact h j hj
theorem Own.grow {w w':World} {b:Nat} {l:List Nat} (h:Own w b l) (g:G w w'):Own w' b l:=
 ⟨h.1,Nat.lt_of_lt_of_le h.2.1 g.size,h.2.2.1.G h.2.1 g,fun i hi=>g.frozen h.2.1 (h.2.2.2 i hi)⟩
/-- A row that 'make' lays. -/
theorem q0C (w:World) (n:Nat) (e:TypeId):Own (w.alloc (.cells (madeCells #[.int .u32 0] n) e)) w.heap.size (List.replicate n 0):=by
 refine⟨fun d hd=>by rw[List.eq_of_mem_replicate hd];omega,by simp,fun i hi=> ?_,fun i hi=>World.frozen?_alloc_at _ _ _ _ rfl⟩;have hi':i<n:=by simpa using hi
 rw[Nat.zero_add,World.cell?_alloc_at _ _ _ _ rfl];have ht:=toList_madeCells_one (.int .u32 0) n;have hg:(madeCells #[Value.int .u32 0] n)[i]? =some (.int .u32 0):=by
  rw[← Array.getElem?_toList,ht];simp [hi']
 rw[hg]
 congr 2
 rw[List.getD_eq_getElem?_getD];simp [hi']
end Go.Proofs.YtbfjihniphldaaaGreatDoor.BN
namespace Go.Proofs.YtbfjihniphldaaaGreatDoor
open Go.ChangeShapes Go.WideShapes Go.ChangeAt Go.RowKit
open BN
theorem Sl.cases {w:World} {v:Value} {l:List Nat} (h:Sl w v l):
  (l=[]∧∃ a c,v= .slice a 0 c)∨(l≠[]∧∃ b o c,v= .slice (some ⟨b,o,none⟩) l.length c∧l.length≤c∧b<w.heap.size∧Row w b o l):=by
 obtain⟨-,h|⟨b,o,c,e,hc,hb,hr⟩⟩:=h
 ·exact Or.inl h
 ·by_cases hl:l=[]
  ·subst hl;exact Or.inl ⟨rfl,_,c,e⟩
  ·exact Or.inr ⟨hl,b,o,c,e,hc,hb,hr⟩
theorem q2O {l:List Nat} (h:okw l) (k:Nat) (hk:k<l.length) (hd:l.getD k 0≠0):canon (l.take (k+1)):=by
 refine⟨q1t h _,fun hn=> ?_⟩;have e:=q1n hk;have:(l.take (k+1)).getLast hn=l.getD k 0:=by
  have:∀ (m:List Nat) (hm:m≠[]),m=l.take k++[l.getD k 0]→m.getLast hm=l.getD k 0:=by
   intro m hm hme;subst hme;simp
  exact this _ hn e
 rw[this];exact hd
theorem trim_c (w:World) (v:Value) (l:List Nat) (hs:Sl w v l) (hl:l.length≤1048576):
  Calls Tryz.prog 176 #[v] w (q0e w (val l)):=by
 have hok:=hs.1;rcases Sl.cases hs with ⟨rfl,a,c,rfl⟩|⟨hne,b,o,c,rfl,hc,hb,hr⟩
 ·cases a
  all_goals
   go_enter Tryz.func176,Tryz.ntmps176;go_wp2;refine wp_loop_rounds 1 ?_;rw[rounds_succ];go_wp2;go_ret;exact⟨_,rfl,G.refl _,[],⟨q1f,Or.inl ⟨rfl,_,_,rfl⟩⟩,q0Y,rfl⟩
 ·generalize hn:l.length=n at *;have HR:Hid _:=hr;have HN:Hid _:=hn;clear hr hn hs;go_enter Tryz.func176,Tryz.ntmps176;go_wp2
  go_loop [3] (fun vk=>∃ k:Nat,k≤n∧vk= .int .i64 k∧val (l.take k)=val l) (fun vk=>(intOf vk).toNat)
  case atStart=>exact⟨n,Nat.le_refl _,rfl,by rw[← HN.out,List.take_length]⟩
  case round=>
   obtain⟨k,hk,rfl,hv⟩:=hrel;have HV:Hid _:=hv;clear hv;cases k with
   |zero=>
    go_wp2;go_ret;have hv0:val l=0:=by rw[← HV.out];simp [val]
    exact⟨_,rfl,G.refl _,[],⟨q1f,Or.inl ⟨rfl,_,_,rfl⟩⟩,q0Y,by rw[hv0];rfl⟩
   |succ k=>
    have hcell:=HR.out k (by rw[HN.out];omega);have hlt:k<l.length:=by rw[HN.out];omega
    have hvs:=q0M hlt;have hct:=q2O hok k hlt;generalize l.getD k 0=d at hcell hvs hct;by_cases hd:d=0
    ·subst hd;have HS:Hid _:=hvs;clear hvs hct hlt;go_wp2
     go_round
     case rel=>exact⟨k,by omega,by go_num,by rw[← HV.out,HS.out];simp⟩
     case measure=>simp [intOf]
    ·have hd2:((d:Int)==0)=false:=by simp;omega
     have HC:Hid _:=hct;clear hvs hct;go_wp2;go_ret;refine⟨_,rfl,G.refl _,l.take (k+1),⟨q1t hok _,Or.inr ⟨b,o,c,?_,?_,hb,fun i hi=> ?_⟩⟩,HC.out hd,HV.out⟩
     ·rw[List.length_take,HN.out,Nat.min_eq_left (by omega)];simp
     ·rw[List.length_take];omega
     ·have hi':i<k+1:=by rw[List.length_take] at hi;omega
      have:=HR.out i (by rw[HN.out];omega);rw[this]
      congr 3
      rw[List.getD_eq_getElem?_getD,List.getD_eq_getElem?_getD,List.getElem?_take_of_lt hi']
theorem qbN (w:World) (d0 d1:Nat) (e:TypeId) (h0:d0<2^32) (h1:d1<2^32):
  Sl (w.alloc (.cells #[.int .u32 (d0:Int),.int .u32 (d1:Int)] e)) (.slice (some ⟨w.heap.size,0,none⟩) 2 2) [d0,d1]:=by
 refine⟨fun d hd=> ?_,Or.inr ⟨w.heap.size,0,2,rfl,Nat.le_refl _,by simp,fun i hi=> ?_⟩⟩
 ·simp at hd;rcases hd with rfl|rfl<;>assumption
 ·rw[Nat.zero_add,World.cell?_alloc_at _ _ _ _ rfl];have:i=0∨i=1:=by simp at hi;omega
  rcases this with rfl|rfl<;>rfl
theorem q2T (w:World) (x:Nat) (hx:x<2^64):
  Calls Tryz.prog 177 #[.int .u64 x] w (q0e w x):=by
 have hw0:IntKind.u32.wrap (x:Int)=((x%2^32:Nat):Int):=by rw[IntKind.wrap_u32];omega
 have hw1:IntKind.u32.wrap ((x:Int)/4294967296)=((x/2^32:Nat):Int):=by rw[IntKind.wrap_u32];omega
 have hv:val [x%2^32,x/2^32]=x:=by simp [val];omega
 have hT:Hid _:=fun w=>trim_c _ _ _ (qbN w (x%2^32) (x/2^32) 187 (by omega) (by omega)) (by simp);rw[hv] at hT;generalize x%2^32=d0 at *;generalize x/2^32=d1 at *;clear hv;go_enter Tryz.func177,Tryz.ntmps177;go_wp2_with fail;refine(hT.out w).mono ?_;rintro e w1 ⟨v1,rfl,hb1,hn1⟩;go_wp2;go_ret;exact⟨v1,rfl,G.trans ((G.refl _).alloc _) hb1,hn1⟩
def cmpV (a b:Nat):Int:=if a<b then -1 else if a=b then 0 else 1
/-- The cells of a slice, in a form that serves the empty one too. -/
theorem q0n {w:World} {v:Value} {l:List Nat} (h:Sl w v l):∃ a c,v= .slice a l.length c∧l.length≤c∧∀ i,i<l.length→∃ b o,a=some ⟨b,o,none⟩∧b<w.heap.size∧w.cell? ⟨b,o+i,none⟩=some (.int .u32 (l.getD i 0:Nat)):=by
 rcases Sl.cases h with ⟨rfl,a,c,rfl⟩|⟨hne,b,o,c,rfl,hc,hb,hr⟩
 ·exact⟨a,c,rfl,Nat.zero_le _,fun i hi=>by simp at hi⟩
 ·exact⟨_,c,rfl,hc,fun i hi=>⟨b,o,rfl,hb,hr i hi⟩⟩
theorem q2H (w:World) (va vb:Value) (a b K:Nat) (hK:K≤1048576) (ha:Num w va a) (hb:Num w vb b) (ha2:a<2^(32*K)) (hb2:b<2^(32*K)):
  Calls Tryz.prog 184 #[va,vb] w fun e w'=>e= .returned (.int .i64 (cmpV a b))∧G w w':=by
 obtain⟨l,hl,hcl,rfl⟩:=ha;obtain⟨m,hm,hcm,rfl⟩:=hb;have hll:=q06 hcl ha2;have pR:=q06 hcm hb2;clear ha2 hb2;have aN:=hl.1;have fO:=hm.1;obtain⟨pa,ca,rfl,dL,hra⟩:=q0n hl;obtain⟨pb,cb,rfl,hcb,hrb⟩:=q0n hm;have HA:Hid _:=hra;have HB:Hid _:=hrb;clear hra hrb hl hm;by_cases hne:l.length=m.length
 ·generalize hn:m.length=n at *;have HN:Hid _:=hne;have HM:Hid _:=hn;rw[hne];have hb1:(n:Int)≤1048576:=by omega
  have hnn:((n:Int) != (n:Int))=false:=by simp
  clear hne hn hll pR dL hcb;go_enter Tryz.func184,Tryz.ntmps184;go_wp2
  go_loopw [5] (fun vk wr=>∃ k:Nat,k≤n∧vk= .int .i64 ((k:Int)-1)∧val (l.drop k)=val (m.drop k)∧G w wr) (fun vk _=>(intOf vk+1).toNat)
  case atStart=>exact⟨n,Nat.le_refl _,rfl,by rw[List.drop_of_length_le (by rw[HN.out];exact Nat.le_refl _),List.drop_of_length_le (by rw[HM.out];exact Nat.le_refl _)],G.refl _⟩
  case round=>
   obtain⟨k,hk,rfl,hv,hG⟩:=hrel;have HV:Hid _:=hv;clear hv;cases k with
   |zero=>
    go_wp2;go_ret;have hv0:val l=val m:=by have:=HV.out;simpa using this
    exact⟨q0x (by unfold cmpV;rw[if_neg (by omega),if_pos hv0]),hG⟩
   |succ k=>
    obtain⟨b1,o1,rfl,hB1,hc1'⟩:=HA.out k (by rw[HN.out];omega);obtain⟨b2,o2,rfl,hB2,hc2'⟩:=HB.out k (by omega);have hc1:=hG.cell (p:=⟨b1,o1+k,none⟩) hB1 hc1';have hc2:=hG.cell (p:=⟨b2,o2+k,none⟩) hB2 hc2';have hs1:b1<wr.heap.size:=Nat.lt_of_lt_of_le hB1 hG.size;have hs2:b2<wr.heap.size:=Nat.lt_of_lt_of_le hB2 hG.size;clear hc1' hc2' hB1 hB2;have hk1:k<l.length:=by rw[HN.out];omega
    have hk2:k<m.length:=by rw[HM.out];omega
    have hlt:=q3g aN hk1 hk2 HV.out;have hgt:=q3g fO hk2 hk1 HV.out.symm;have heq:l.getD k 0=m.getD k 0→val (l.drop k)=val (m.drop k):=by
     intro h;rw[q0h hk1,q0h hk2,h];show _+2^32*_=_+2^32*_;rw[HV.out]
    generalize l.getD k 0=x at *;generalize m.getD k 0=y at *;have H1:Hid _:=hlt;have H2:Hid _:=hgt;have H3:Hid _:=heq;clear hlt hgt heq hk1 hk2;by_cases hxy:x=y
    ·subst hxy;have ht:((x:Int) != x)=false:=by simp
     go_wp2_with fail;refine q0f (by kernel_rfl) (by kernel_rfl) ?_;intro W hW;have hq1:=q08 (w:=W) (a:=⟨b1,o1+k,none⟩) (x:= .int .u32 (x:Int)) (by rw[hW];first|(simp;done)|(simp;omega)|omega) (by rw[hW];first|assumption|(simp [go_sem];done)|(simp [*,go_sem];done));have hq2:=q08 (w:=W) (a:=⟨b2,o2+k,none⟩) (x:= .int .u32 (x:Int)) (by rw[hW];first|(simp;done)|(simp;omega)|omega) (by rw[hW];first|assumption|(simp [go_sem];done)|(simp [*,go_sem];done));clear hW
     repeat (go_big_quiet_step (fail))
     refine wpQuiet_nil ?_;clear hq1 hq2;intro w1 hw1;clear hc1 hc2;go_wp2
     go_roundw
     case rel=>exact⟨k,by omega,by congr 1,H3.out (by trivial),G.trans hG hw1⟩
     case measure=>simp [intOf]
    ·have ht:((x:Int) != y)=true:=by simp;omega
     by_cases hx:x<y
     ·have hx':(x:Int)<y:=by omega
      go_wp2_with fail;refine q0f (by kernel_rfl) (by kernel_rfl) ?_;intro W hW;have hq3:=q08 (w:=W) (a:=⟨b1,o1+k,none⟩) (x:= .int .u32 (x:Int)) (by rw[hW];first|(simp;done)|(simp;omega)|omega) (by rw[hW];first|assumption|(simp [go_sem];done)|(simp [*,go_sem];done));have hq4:=q08 (w:=W) (a:=⟨b2,o2+k,none⟩) (x:= .int .u32 (y:Int)) (by rw[hW];first|(simp;done)|(simp;omega)|omega) (by rw[hW];first|assumption|(simp [go_sem];done)|(simp [*,go_sem];done));clear hW
      repeat (go_big_quiet_step (fail))
      refine wpQuiet_nil ?_;clear hq3 hq4;intro w1 hw1;have hd1:=hw1.cell hs1 hc1;have hd2:=hw1.cell hs2 hc2;have hs3:b1<w1.heap.size:=Nat.lt_of_lt_of_le hs1 hw1.size;have hs4:b2<w1.heap.size:=Nat.lt_of_lt_of_le hs2 hw1.size;clear hc1 hc2;go_wp2_with fail;refine q0f (by kernel_rfl) (by kernel_rfl) ?_;intro W hW;have pQ:=q08 (w:=W) (a:=⟨b1,o1+k,none⟩) (x:= .int .u32 (x:Int)) (by rw[hW];first|(simp;done)|(simp;omega)|omega) (by rw[hW];first|assumption|(simp [go_sem];done)|(simp [*,go_sem];done));have qp:=q08 (w:=W) (a:=⟨b2,o2+k,none⟩) (x:= .int .u32 (y:Int)) (by rw[hW];first|(simp;done)|(simp;omega)|omega) (by rw[hW];first|assumption|(simp [go_sem];done)|(simp [*,go_sem];done));clear hW
      repeat (go_big_quiet_step (fail))
      refine wpQuiet_nil ?_;clear pQ qp;intro w2 hw2;go_wp2;go_ret;have:=H1.out hx;exact⟨q0x (by unfold cmpV;rw[if_pos this]),G.trans (G.trans hG hw1) hw2⟩
     ·have hx':¬ (x:Int)<y:=by omega
      go_wp2_with fail;refine q0f (by kernel_rfl) (by kernel_rfl) ?_;intro W hW;have qw:=q08 (w:=W) (a:=⟨b1,o1+k,none⟩) (x:= .int .u32 (x:Int)) (by rw[hW];first|(simp;done)|(simp;omega)|omega) (by rw[hW];first|assumption|(simp [go_sem];done)|(simp [*,go_sem];done));have hq8:=q08 (w:=W) (a:=⟨b2,o2+k,none⟩) (x:= .int .u32 (y:Int)) (by rw[hW];first|(simp;done)|(simp;omega)|omega) (by rw[hW];first|assumption|(simp [go_sem];done)|(simp [*,go_sem];done));clear hW
      repeat (go_big_quiet_step (fail))
      refine wpQuiet_nil ?_;clear qw hq8;intro w1 hw1;have hd1:=hw1.cell hs1 hc1;have hd2:=hw1.cell hs2 hc2;have hs3:b1<w1.heap.size:=Nat.lt_of_lt_of_le hs1 hw1.size;have hs4:b2<w1.heap.size:=Nat.lt_of_lt_of_le hs2 hw1.size;clear hc1 hc2;go_wp2_with fail;refine q0f (by kernel_rfl) (by kernel_rfl) ?_;intro W hW;have wy:=q08 (w:=W) (a:=⟨b1,o1+k,none⟩) (x:= .int .u32 (x:Int)) (by rw[hW];first|(simp;done)|(simp;omega)|omega) (by rw[hW];first|assumption|(simp [go_sem];done)|(simp [*,go_sem];done));have mE:=q08 (w:=W) (a:=⟨b2,o2+k,none⟩) (x:= .int .u32 (y:Int)) (by rw[hW];first|(simp;done)|(simp;omega)|omega) (by rw[hW];first|assumption|(simp [go_sem];done)|(simp [*,go_sem];done));clear hW
      repeat (go_big_quiet_step (fail))
      refine wpQuiet_nil ?_;clear wy mE;intro w2 hw2;go_wp2;go_ret;have:=H2.out (by omega);exact⟨q0x (by unfold cmpV;rw[if_neg (by omega),if_neg (by omega)]),G.trans (G.trans hG hw1) hw2⟩
 ·have h1:=fun h=>q0J hcl hcm h;have h2:=fun h=>q0J hcm hcl h;have hne':((l.length:Int) != (m.length:Int))=true:=by simp;omega
  by_cases hlt:l.length<m.length
  ·have hv:cmpV (val l) (val m)= -1:=by unfold cmpV;rw[if_pos (h1 hlt)]
   rw[hv];clear h1 h2 hv;generalize l.length=n at *;generalize m.length=k at *;have hlt':(n:Int)<k:=by omega
   go_enter Tryz.func184,Tryz.ntmps184;go_wp2;go_ret;exact⟨rfl,G.refl _⟩
  ·have hlt2:m.length<l.length:=by omega
   have hv:cmpV (val l) (val m)=1:=by unfold cmpV;rw[if_neg (by have:=h2 hlt2;omega),if_neg (by have:=h2 hlt2;omega)]
   rw[hv];clear h1 h2 hv;generalize l.length=n at *;generalize m.length=k at *;have hlt':¬ (n:Int)<k:=by omega
   go_enter Tryz.func184,Tryz.ntmps184;go_wp2;go_ret;exact⟨rfl,G.refl _⟩
theorem q7Q:(Tryz.prog.info? 187).map (fun i=>(i.zero,i.size,i.bytes))=some (some (.int .u32 0),1,4):=by kernel_rfl
/-- 'make([]uint32, n)', in every world. -/
theorem q1e (n:Nat) (hn:n≤2097152) (w:World):(Instr.makeSlice 36 (.int .i64 (n:Int)) (.int .i64 (n:Int))).run Tryz.prog w= .ok (.slice (some ⟨w.heap.size,0,none⟩) n n) (w.alloc (.cells (madeCells #[.int .u32 0] n) 187)):=
 run_make_row' 36 187 (.int .u32 0) 4 Tryz.underlying36 q7Q rfl .i64 .i64 n (by omega) (by omega) w
/-- One step of a sum. -/
theorem q6x {cs l m:List Nat} {k c n:Nat} (hk:k<n) (hcs:cs.length=n+1) (hl:okw l) (hm:okw m) (hc:c≤1)
  (h:val (cs.take k)+2^(32*k)*c=val (l.take k)+val (m.take k)):
  (c+l.getD k 0+m.getD k 0)/2^32≤1∧
  val ((cs.set k ((c+l.getD k 0+m.getD k 0)%2^32)).take (k+1))+2^(32*(k+1))*((c+l.getD k 0+m.getD k 0)/2^32)=val (l.take (k+1))+val (m.take (k+1)):=by
 have h1:=q05 hl k;have h2:=q05 hm k;rw[q0j (by omega),q07 l,q07 m];generalize l.getD k 0=x at *;generalize m.getD k 0=y at *;refine⟨by omega,?_⟩;rw[show 32*(k+1)=32*k+32 from by omega,Nat.pow_add,Nat.mul_assoc,Nat.add_assoc,← Nat.mul_add];have:(c+x+y)%2^32+2^32*((c+x+y)/2^32)=c+x+y:=Nat.mod_add_div _ _;rw[this,Nat.mul_add,Nat.mul_add];omega
/-- A row of our own, trimmed. -/
theorem q0G {w:World} {b n:Nat} {cs:List Nat} (h:Own w b cs) (hc:cs.length=n) (hn:n≤1048576):
  Calls Tryz.prog 176 #[.slice (some ⟨b,0,none⟩) n n] w (q0e w (val cs)):=by
 subst hc;exact trim_c _ _ _ (h.sl _ (Nat.le_refl _)) hn
theorem q6b (w:World) (va vb:Value) (l m:List Nat) (swap:Bool) (hl:Sl w va l) (hm:Sl w vb m) (hlen:m.length≤l.length) (hll:l.length≤1048000) (hsw:swap=true→m.length<l.length):
  Calls Tryz.prog 183 (if swap then #[vb,va] else #[va,vb]) w (q0e w (val l+val m)):=by
 have aN:=hl.1;have fO:=hm.1;obtain⟨pa,ca,rfl,dL,hra⟩:=q0n hl;obtain⟨pb,cb,rfl,hcb,hrb⟩:=q0n hm;have HA:Hid _:=hra;have HB:Hid _:=hrb;clear hra hrb hl hm;generalize hn:l.length=n at *;generalize hj:m.length=j at *;have HN:Hid _:=hn;have HJ:Hid _:=hj;clear hn hj;have hmk:=q1e (n+1) (by omega);rw[show ((n+1:Nat):Int)=(n:Int)+1 from by omega] at hmk;cases swap
 ·show Calls Tryz.prog 183 #[_,_] w _;have t0:¬ (n:Int)<j:=by omega
  go_enter Tryz.func183,Tryz.ntmps183;go_wp2_with fail
  go_loopw [6,7] (fun vc vk wr=>∃ (k c:Nat) (cs:List Nat),k≤n∧vk= .int .i64 k∧vc= .int .u64 c∧c≤1∧cs.length=n+1∧Own wr w.heap.size cs∧val (cs.take k)+2^(32*k)*c=val (l.take k)+val (m.take k)∧G w wr) (fun _ vk _=>n-(intOf vk).toNat)
  case atStart=>exact⟨0,0,List.replicate (n+1) 0,Nat.zero_le _,rfl,rfl,by omega,by simp,q0C w (n+1) 187,by simp [val],(G.refl _).alloc _⟩
  case round=>
   obtain⟨k,c,cs,hk,rfl,rfl,hc,hcs,hown,hval,hG⟩:=hrel;have HV:Hid _:=hval;have HC:Hid _:=hcs;have HO:Hid _:=hown;clear hval hcs hown;have hci:(c:Int)≤1:=by omega
   by_cases hkn:k<n
   ·obtain⟨b1,o1,rfl,hB1,hc1'⟩:=HA.out k hkn;have hc1:=hG.cell (p:=⟨b1,o1+k,none⟩) hB1 hc1';clear hc1' hB1;obtain⟨q1,q2⟩:=q6x hkn HC.out aN fO hc HV.out;have Q1:Hid _:=q1;have Q2:Hid _:=q2;clear q1 q2;have hx:=q05 aN k;have hy:=q05 fO k;have ho:=Own.cell (w:=wr) (b:=w.heap.size) (l:=cs) (i:=k) HO.out (by rw[HC.out];omega);have hf:=Own.frozen (w:=wr) (b:=w.heap.size) (l:=cs) (i:=k) HO.out (by rw[HC.out];omega);have hxi:((l.getD k 0:Nat):Int)≤4294967295:=by omega
    have hyi:((m.getD k 0:Nat):Int)≤4294967295:=by omega
    by_cases hkj:k<j
    ·obtain⟨b2,o2,rfl,hB2,hc2'⟩:=HB.out k hkj;have hc2:=hG.cell (p:=⟨b2,o2+k,none⟩) hB2 hc2';clear hc2' hB2;generalize l.getD k 0=x at *;generalize m.getD k 0=y at *;generalize cs.getD k 0=z at *;have hw:IntKind.u32.wrap ((c:Int)+x+y)=(((c+x+y)%2^32:Nat):Int):=by rw[IntKind.wrap_u32];omega
     have hw2:((c:Int)+x+y)/4294967296=(((c+x+y)/2^32:Nat):Int):=by omega
     have hr:(c+x+y)%2^32<2^32:=by omega
     clear hx hy;generalize (c+x+y)%2^32=r at *;generalize (c+x+y)/2^32=q at *;have HR:Hid _:=hr;clear hr;go_wp2_with fail
     go_roundw
     case rel=>exact⟨k+1,q,cs.set k r,by omega,by go_num,rfl,Q1.out,by rw[List.length_set];exact HC.out,Own.set HO.out k r (by rw[HC.out];omega) HR.out,Q2.out,hG.setCell (Nat.le_refl _) _⟩
     case measure=>simp only[intOf];omega
    ·have hy0:m.getD k 0=0:=by rw[List.getD_eq_getElem?_getD,List.getElem?_eq_none (by rw[HJ.out];omega)];rfl
     rw[hy0] at Q1 Q2;clear hy hyi hy0;generalize l.getD k 0=x at *;generalize cs.getD k 0=z at *;have hw:IntKind.u32.wrap ((c:Int)+x)=(((c+x+0)%2^32:Nat):Int):=by rw[IntKind.wrap_u32];omega
     have hw2:((c:Int)+x)/4294967296=(((c+x+0)/2^32:Nat):Int):=by omega
     have hr:(c+x+0)%2^32<2^32:=by omega
     clear hx;generalize (c+x+0)%2^32=r at *;generalize (c+x+0)/2^32=q at *;have HR:Hid _:=hr;clear hr;go_wp2_with fail
     go_roundw
     case rel=>exact⟨k+1,q,cs.set k r,by omega,by go_num,rfl,Q1.out,by rw[List.length_set];exact HC.out,Own.set HO.out k r (by rw[HC.out];omega) HR.out,Q2.out,hG.setCell (Nat.le_refl _) _⟩
     case measure=>simp only[intOf];omega
   ·obtain rfl:k=n:=by omega
    have ho:=Own.cell (w:=wr) (b:=w.heap.size) (l:=cs) (i:=k) HO.out (by rw[HC.out];omega);have hf:=Own.frozen (w:=wr) (b:=w.heap.size) (l:=cs) (i:=k) HO.out (by rw[HC.out];omega);generalize cs.getD k 0=z at *;have hw:IntKind.u32.wrap (c:Int)=(c:Int):=by rw[IntKind.wrap_u32];omega
    have q1:Own _ w.heap.size (cs.set k c):=Own.set (HO.out:Own wr w.heap.size cs) k c (by rw[HC.out];omega) (by omega);have q2:val (cs.set k c)=val l+val m:=by
     have h1:=q0j (l:=cs) (k:=k) (x:=c) (by rw[HC.out];omega);rw[List.take_of_length_le (by rw[List.length_set,HC.out];omega)] at h1;rw[h1,HV.out,List.take_of_length_le (by rw[HN.out];omega),List.take_of_length_le (by rw[HJ.out];omega)]
    have hT:Hid _:=q0G q1 (n:=k+1) (by rw[List.length_set];exact HC.out) (by omega);rw[q2] at hT;have hG2:=hG.setCell (p:=⟨w.heap.size,k,none⟩) (Nat.le_refl _) (.int .u32 (c:Int));clear q1 q2;go_wp2_with fail;refine Calls.mono (P:=Tryz.prog) hT.out ?_;rintro e w1 ⟨v1,rfl,hb1,hn1⟩;go_wp2_with fail;go_ret;exact⟨v1,rfl,G.trans hG2 hb1,hn1⟩
 ·show Calls Tryz.prog 183 #[_,_] w _;have t0:(j:Int)<n:=by have:=hsw rfl;omega
  go_enter Tryz.func183,Tryz.ntmps183;go_wp2_with fail
  go_loopw [6,7] (fun vc vk wr=>∃ (k c:Nat) (cs:List Nat),k≤n∧vk= .int .i64 k∧vc= .int .u64 c∧c≤1∧cs.length=n+1∧Own wr w.heap.size cs∧val (cs.take k)+2^(32*k)*c=val (l.take k)+val (m.take k)∧G w wr) (fun _ vk _=>n-(intOf vk).toNat)
  case atStart=>exact⟨0,0,List.replicate (n+1) 0,Nat.zero_le _,rfl,rfl,by omega,by simp,q0C w (n+1) 187,by simp [val],(G.refl _).alloc _⟩
  case round=>
   obtain⟨k,c,cs,hk,rfl,rfl,hc,hcs,hown,hval,hG⟩:=hrel;have HV:Hid _:=hval;have HC:Hid _:=hcs;have HO:Hid _:=hown;clear hval hcs hown;have hci:(c:Int)≤1:=by omega
   by_cases hkn:k<n
   ·obtain⟨b1,o1,rfl,hB1,hc1'⟩:=HA.out k hkn;have hc1:=hG.cell (p:=⟨b1,o1+k,none⟩) hB1 hc1';clear hc1' hB1;obtain⟨q1,q2⟩:=q6x hkn HC.out aN fO hc HV.out;have Q1:Hid _:=q1;have Q2:Hid _:=q2;clear q1 q2;have hx:=q05 aN k;have hy:=q05 fO k;have ho:=Own.cell (w:=wr) (b:=w.heap.size) (l:=cs) (i:=k) HO.out (by rw[HC.out];omega);have hf:=Own.frozen (w:=wr) (b:=w.heap.size) (l:=cs) (i:=k) HO.out (by rw[HC.out];omega);have hxi:((l.getD k 0:Nat):Int)≤4294967295:=by omega
    have hyi:((m.getD k 0:Nat):Int)≤4294967295:=by omega
    by_cases hkj:k<j
    ·obtain⟨b2,o2,rfl,hB2,hc2'⟩:=HB.out k hkj;have hc2:=hG.cell (p:=⟨b2,o2+k,none⟩) hB2 hc2';clear hc2' hB2;generalize l.getD k 0=x at *;generalize m.getD k 0=y at *;generalize cs.getD k 0=z at *;have hw:IntKind.u32.wrap ((c:Int)+x+y)=(((c+x+y)%2^32:Nat):Int):=by rw[IntKind.wrap_u32];omega
     have hw2:((c:Int)+x+y)/4294967296=(((c+x+y)/2^32:Nat):Int):=by omega
     have hr:(c+x+y)%2^32<2^32:=by omega
     clear hx hy;generalize (c+x+y)%2^32=r at *;generalize (c+x+y)/2^32=q at *;have HR:Hid _:=hr;clear hr;go_wp2_with fail
     go_roundw
     case rel=>exact⟨k+1,q,cs.set k r,by omega,by go_num,rfl,Q1.out,by rw[List.length_set];exact HC.out,Own.set HO.out k r (by rw[HC.out];omega) HR.out,Q2.out,hG.setCell (Nat.le_refl _) _⟩
     case measure=>simp only[intOf];omega
    ·have hy0:m.getD k 0=0:=by rw[List.getD_eq_getElem?_getD,List.getElem?_eq_none (by rw[HJ.out];omega)];rfl
     rw[hy0] at Q1 Q2;clear hy hyi hy0;generalize l.getD k 0=x at *;generalize cs.getD k 0=z at *;have hw:IntKind.u32.wrap ((c:Int)+x)=(((c+x+0)%2^32:Nat):Int):=by rw[IntKind.wrap_u32];omega
     have hw2:((c:Int)+x)/4294967296=(((c+x+0)/2^32:Nat):Int):=by omega
     have hr:(c+x+0)%2^32<2^32:=by omega
     clear hx;generalize (c+x+0)%2^32=r at *;generalize (c+x+0)/2^32=q at *;have HR:Hid _:=hr;clear hr;go_wp2_with fail
     go_roundw
     case rel=>exact⟨k+1,q,cs.set k r,by omega,by go_num,rfl,Q1.out,by rw[List.length_set];exact HC.out,Own.set HO.out k r (by rw[HC.out];omega) HR.out,Q2.out,hG.setCell (Nat.le_refl _) _⟩
     case measure=>simp only[intOf];omega
   ·obtain rfl:k=n:=by omega
    have ho:=Own.cell (w:=wr) (b:=w.heap.size) (l:=cs) (i:=k) HO.out (by rw[HC.out];omega);have hf:=Own.frozen (w:=wr) (b:=w.heap.size) (l:=cs) (i:=k) HO.out (by rw[HC.out];omega);generalize cs.getD k 0=z at *;have hw:IntKind.u32.wrap (c:Int)=(c:Int):=by rw[IntKind.wrap_u32];omega
    have q1:Own _ w.heap.size (cs.set k c):=Own.set (HO.out:Own wr w.heap.size cs) k c (by rw[HC.out];omega) (by omega);have q2:val (cs.set k c)=val l+val m:=by
     have h1:=q0j (l:=cs) (k:=k) (x:=c) (by rw[HC.out];omega);rw[List.take_of_length_le (by rw[List.length_set,HC.out];omega)] at h1;rw[h1,HV.out,List.take_of_length_le (by rw[HN.out];omega),List.take_of_length_le (by rw[HJ.out];omega)]
    have hT:Hid _:=q0G q1 (n:=k+1) (by rw[List.length_set];exact HC.out) (by omega);rw[q2] at hT;have hG2:=hG.setCell (p:=⟨w.heap.size,k,none⟩) (Nat.le_refl _) (.int .u32 (c:Int));clear q1 q2;go_wp2_with fail;refine Calls.mono (P:=Tryz.prog) hT.out ?_;rintro e w1 ⟨v1,rfl,hb1,hn1⟩;go_wp2_with fail;go_ret;exact⟨v1,rfl,G.trans hG2 hb1,hn1⟩
theorem qcm (w:World) (va vb:Value) (a b K:Nat) (hK:K≤1048000) (ha:Num w va a) (hb:Num w vb b) (ha2:a<2^(32*K)) (hb2:b<2^(32*K)):
  Calls Tryz.prog 183 #[va,vb] w (q0e w (a+b)):=by
 obtain⟨l,hl,hcl,rfl⟩:=ha;obtain⟨m,hm,hcm,rfl⟩:=hb;have hll:=q06 hcl ha2;have pR:=q06 hcm hb2;by_cases h:m.length≤l.length
 ·exact q6b w va vb l m false hl hm h (by omega) (by simp)
 ·rw[Nat.add_comm];exact q6b w vb va m l true hm hl (by omega) (by omega) (fun _=>by omega)
theorem qcj (x c:Nat) (hx:x<2^32) (hc:c≤1):∃ d r q:Nat,IntKind.u64.wrap ((x:Int)-c)=d∧IntKind.u32.wrap (d:Int)=r∧(d:Int)/9223372036854775808=q∧q≤1∧r<2^32∧x+2^32*q=c+r:=by
 refine⟨(x+2^64-c)%2^64,(x+2^64-c)%2^64%2^32,(x+2^64-c)%2^64/2^63,?_,?_,?_,?_,?_,?_⟩
 ·rw[IntKind.wrap_u64];omega
 ·rw[IntKind.wrap_u32];omega
 all_goals omega
theorem qbM (x c y:Nat) (hx:x<2^32) (hy:y<2^32) (hc:c≤1):∃ d0 d r q:Nat,IntKind.u64.wrap ((x:Int)-c)=d0∧IntKind.u64.wrap ((d0:Int)-y)=d∧IntKind.u32.wrap (d:Int)=r∧(d:Int)/9223372036854775808=q∧q≤1∧r<2^32∧x+2^32*q=c+r+y:=by
 refine⟨(x+2^64-c)%2^64,((x+2^64-c)%2^64+2^64-y)%2^64,((x+2^64-c)%2^64+2^64-y)%2^64%2^32,((x+2^64-c)%2^64+2^64-y)%2^64/2^63,?_,?_,?_,?_,?_,?_,?_⟩
 ·rw[IntKind.wrap_u64];omega
 ·rw[IntKind.wrap_u64];omega
 ·rw[IntKind.wrap_u32];omega
 all_goals omega
/-- One step of a difference. -/
theorem q6l {cs l m:List Nat} {k c n r q:Nat} (hk:k<n) (hcs:cs.length=n)
  (h:val (l.take k)+2^(32*k)*c=val (cs.take k)+val (m.take k)) (hq:l.getD k 0+2^32*q=c+r+m.getD k 0):
  val (l.take (k+1))+2^(32*(k+1))*q=val ((cs.set k r).take (k+1))+val (m.take (k+1)):=by
 rw[q0j (by omega),q07 l,q07 m];generalize l.getD k 0=x at *;generalize m.getD k 0=y at *;rw[show 32*(k+1)=32*k+32 from by omega,Nat.pow_add,Nat.mul_assoc,Nat.add_assoc,← Nat.mul_add,hq,Nat.mul_add,Nat.mul_add];omega
theorem qc8 (w:World) (va vb:Value) (a b K:Nat) (hK:K≤1048000) (ha:Num w va a) (hb:Num w vb b) (ha2:a<2^(32*K)) (gX:b≤a):
  Calls Tryz.prog 185 #[va,vb] w (q0e w (a-b)):=by
 obtain⟨l,hl,hcl,rfl⟩:=ha;obtain⟨m,hm,hcm,rfl⟩:=hb;have hll:=q06 hcl ha2;have hlen:m.length≤l.length:=by
  by_cases h:m.length≤l.length
  ·exact h
  ·have:=q0J hcl hcm (by omega);omega
 clear ha2;have aN:=hl.1;have fO:=hm.1;obtain⟨pa,ca,rfl,dL,hra⟩:=q0n hl;obtain⟨pb,cb,rfl,hcb,hrb⟩:=q0n hm;have HA:Hid _:=hra;have HB:Hid _:=hrb;clear hra hrb hl hm;generalize hn:l.length=n at *;generalize hj:m.length=j at *;have HN:Hid _:=hn;have HJ:Hid _:=hj;have MN:Hid _:=gX;clear hn hj gX;have hmk:=q1e n (by omega);go_enter Tryz.func185,Tryz.ntmps185;go_wp2_with fail
 go_loopw [6,7] (fun vc vk wr=>∃ (k c:Nat) (cs:List Nat),k≤n∧vk= .int .i64 k∧vc= .int .u64 c∧c≤1∧cs.length=n∧Own wr w.heap.size cs∧val (l.take k)+2^(32*k)*c=val (cs.take k)+val (m.take k)∧G w wr) (fun _ vk _=>n-(intOf vk).toNat)
 case atStart=>exact⟨0,0,List.replicate n 0,Nat.zero_le _,rfl,rfl,by omega,by simp,q0C w n 187,by simp [val],(G.refl _).alloc _⟩
 case round=>
  obtain⟨k,c,cs,hk,rfl,rfl,hc,hcs,hown,hval,hG⟩:=hrel;have HV:Hid _:=hval;have HC:Hid _:=hcs;have HO:Hid _:=hown;clear hval hcs hown;by_cases hkn:k<n
  ·obtain⟨b1,o1,rfl,hB1,hc1'⟩:=HA.out k hkn;have hc1:=hG.cell (p:=⟨b1,o1+k,none⟩) hB1 hc1';clear hc1' hB1;have hx:=q05 aN k;have hy:=q05 fO k;have ho:=Own.cell (w:=wr) (b:=w.heap.size) (l:=cs) (i:=k) HO.out (by rw[HC.out];omega);have hf:=Own.frozen (w:=wr) (b:=w.heap.size) (l:=cs) (i:=k) HO.out (by rw[HC.out];omega);have hxi:((l.getD k 0:Nat):Int)≤4294967295:=by omega
   have hyi:((m.getD k 0:Nat):Int)≤4294967295:=by omega
   have hci:(c:Int)≤1:=by omega
   by_cases hkj:k<j
   ·obtain⟨b2,o2,rfl,hB2,hc2'⟩:=HB.out k hkj;have hc2:=hG.cell (p:=⟨b2,o2+k,none⟩) hB2 hc2';clear hc2' hB2;obtain⟨d0,d,r,q,hw1,hw2,hw3,hw4,hq,hr,he⟩:=qbM _ c _ hx hy hc;have HS:Hid _:=q6l hkn HC.out HV.out he;generalize l.getD k 0=x at *;generalize m.getD k 0=y at *;generalize cs.getD k 0=z at *;have HR:Hid _:=hr;clear hr he hx hy;go_wp2_with fail
    go_roundw
    case rel=>exact⟨k+1,q,cs.set k r,by omega,by go_num,rfl,hq,by rw[List.length_set];exact HC.out,Own.set HO.out k r (by rw[HC.out];omega) HR.out,HS.out,hG.setCell (Nat.le_refl _) _⟩
    case measure=>simp only[intOf];omega
   ·have hy0:m.getD k 0=0:=by rw[List.getD_eq_getElem?_getD,List.getElem?_eq_none (by rw[HJ.out];omega)];rfl
    obtain⟨d,r,q,hw1,hw3,hw4,hq,hr,he⟩:=qcj _ c hx hc;have HS:Hid _:=q6l (m:=m) hkn HC.out HV.out (by rw[hy0];exact he);generalize l.getD k 0=x at *;generalize cs.getD k 0=z at *;have HR:Hid _:=hr;clear hr he hx hy hy0;go_wp2_with fail
    go_roundw
    case rel=>exact⟨k+1,q,cs.set k r,by omega,by go_num,rfl,hq,by rw[List.length_set];exact HC.out,Own.set HO.out k r (by rw[HC.out];omega) HR.out,HS.out,hG.setCell (Nat.le_refl _) _⟩
    case measure=>simp only[intOf];omega
  ·obtain rfl:k=n:=by omega
   have hT:Hid _:=q0G (HO.out:Own wr w.heap.size cs) HC.out (by omega);have q2:val cs=val l-val m:=by
    have h1:=HV.out;rw[List.take_of_length_le (by rw[HN.out];omega),List.take_of_length_le (by rw[HC.out];omega),List.take_of_length_le (by rw[HJ.out];omega)] at h1;have h2:=q0v (HO.out:Own wr w.heap.size cs).1;rw[HC.out] at h2;have h3:=MN.out;generalize 2^(32*k)=p at *;rcases(by omega:c=0∨c=1) with rfl|rfl
    ·omega
    ·omega
   rw[q2] at hT;clear q2;go_wp2_with fail;refine Calls.mono (P:=Tryz.prog) hT.out ?_;rintro e w1 ⟨v1,rfl,hb1,hn1⟩;go_wp2_with fail;go_ret;exact⟨v1,rfl,G.trans hG hb1,hn1⟩
theorem num_nil (w:World) (a:Option Addr) (c:Nat):Num w (.slice a 0 c) 0:=⟨[],⟨q1f,Or.inl ⟨rfl,_,_,rfl⟩⟩,q0Y,rfl⟩
theorem q1Q (n:Nat):val (List.replicate n 0)=0:=by
 induction n with
 |zero=>rfl
 |succ n ih=>rw[List.replicate_succ];simp [val,ih]
theorem q3k {l:List Nat} {p r:Nat} (h:p<l.length):val (l.set p r)+2^(32*p)*l.getD p 0=val l+2^(32*p)*r:=by
 have h1:=q0t (l:=l.set p r) (k:=p) (by simpa using h);have h2:=q0t h;rw[q0H,q0g h,List.drop_set_of_lt (by omega)] at h1;rw[h1,h2,Nat.mul_add,Nat.mul_add];omega
/-- One step of a product's row. -/
theorem q98 {cs m:List Nat} {i t N c x P r q:Nat} (hp:i+t<N) (hN:N≤cs.length)
  (h:val (cs.take N)+2^(32*(i+t))*c=P+2^(32*i)*(x*val (m.take t)))
  (hq:c+(x*m.getD t 0+cs.getD (i+t) 0)=r+2^32*q):
  val ((cs.set (i+t) r).take N)+2^(32*(i+(t+1)))*q=P+2^(32*i)*(x*val (m.take (t+1))):=by
 have h1:=q3k (l:=cs.take N) (p:=i+t) (r:=r) (by rw[List.length_take];omega);rw[List.take_set];have h2:(cs.take N).getD (i+t) 0=cs.getD (i+t) 0:=by
  rw[List.getD_eq_getElem?_getD,List.getD_eq_getElem?_getD,List.getElem?_take_of_lt hp]
 rw[h2] at h1;rw[q07 m,Nat.mul_add x,Nat.mul_add (2^(32*i)),← Nat.add_assoc P,← h];rw[show 32*(i+(t+1))=32*(i+t)+32 from by omega,Nat.pow_add,Nat.mul_assoc];rw[show 2^(32*i)*(x*(2^(32*t)*m.getD t 0))=2^(32*(i+t))*(x*m.getD t 0) from by
  rw[Nat.mul_add,Nat.pow_add,Nat.mul_assoc,Nat.mul_left_comm x]]
 have h3:2^(32*(i+t))*(c+(x*m.getD t 0+cs.getD (i+t) 0))=2^(32*(i+t))*(r+2^32*q):=by rw[hq]
 rw[Nat.mul_add (2^(32*(i+t))),Nat.mul_add (2^(32*(i+t))),Nat.mul_add (2^(32*(i+t)))] at h3;omega
/-- The end of a product's row. -/
theorem qaO {cs l m:List Nat} {i j c P:Nat} (hi:i+j<cs.length) (hj:m.length=j)
  (hP:P=val (l.take i)*val m)
  (h:val (cs.take (i+j))+2^(32*(i+j))*c=P+2^(32*i)*(l.getD i 0*val (m.take j))):
  val ((cs.set (i+j) c).take (i+1+j))=val (l.take (i+1))*val m:=by
 rw[show i+1+j=i+j+1 from by omega,q0j hi,h,List.take_of_length_le (by omega),hP,q07 l,Nat.add_mul,Nat.mul_assoc]
theorem qcg (c x y z:Nat) (hc:c<2^32) (hx:x<2^32) (hy:y<2^32) (hz:z<2^32):
  ∃ p r q:Nat,(x:Int)*y=p∧p≤18446744065119617025∧IntKind.u32.wrap ((c:Int)+(p+z))=r∧((c:Int)+(p+z))/4294967296=q∧q<2^32∧r<2^32∧c+(x*y+z)=r+2^32*q:=by
 have h:x*y≤4294967295*4294967295:=Nat.mul_le_mul (by omega) (by omega);refine⟨x*y,(c+(x*y+z))%2^32,(c+(x*y+z))/2^32,by push_cast;rfl,by omega,?_,?_,?_,?_,?_⟩
 ·rw[IntKind.wrap_u32];generalize x*y=p at *;omega
 all_goals generalize x*y=p at *;omega
theorem qco (w:World) (va vb:Value) (a b K:Nat) (hK:K≤500000) (ha:Num w va a) (hb:Num w vb b) (ha2:a<2^(32*K)) (hb2:b<2^(32*K)):
  Calls Tryz.prog 118 #[va,vb] w (q0e w (a*b)):=by
 obtain⟨l,hl,hcl,rfl⟩:=ha;obtain⟨m,hm,hcm,rfl⟩:=hb;have hll:=q06 hcl ha2;have pR:=q06 hcm hb2;clear ha2 hb2;have aN:=hl.1;have fO:=hm.1;obtain⟨pa,ca,rfl,dL,hra⟩:=q0n hl;obtain⟨pb,cb,rfl,hcb,hrb⟩:=q0n hm;have HA:Hid _:=hra;have HB:Hid _:=hrb;clear hra hrb hl hm;generalize hn:l.length=n at *;generalize hj:m.length=j at *;have HN:Hid _:=hn;have HJ:Hid _:=hj;clear hn hj;by_cases hn0:n=0
 ·subst hn0;have hl0:l=[]:=List.eq_nil_of_length_eq_zero HN.out;subst hl0;go_enter Tryz.func118,Tryz.ntmps118;go_wp2_with fail;go_ret;exact⟨_,rfl,G.refl _,by rw[show val []=0 from rfl,Nat.zero_mul];exact num_nil _ _ _⟩
 by_cases hj0:j=0
 ·subst hj0;have hl0:m=[]:=List.eq_nil_of_length_eq_zero HJ.out;subst hl0;have t0:((n:Int)==0)=false:=by simp;omega
  go_enter Tryz.func118,Tryz.ntmps118;go_wp2_with fail;go_ret;exact⟨_,rfl,G.refl _,by rw[show val []=0 from rfl,Nat.mul_zero];exact num_nil _ _ _⟩
 have t0:((n:Int)==0)=false:=by simp;omega
 have t1:((j:Int)==0)=false:=by simp;omega
 have hmk:=q1e (n+j) (by omega);rw[show ((n+j:Nat):Int)=(n:Int)+j from by omega] at hmk;go_enter Tryz.func118,Tryz.ntmps118;go_wp2_with fail
 go_loopw [6] (fun vk wr=>∃ (i:Nat) (cs:List Nat),i≤n∧vk= .int .i64 i∧cs.length=n+j∧Own wr w.heap.size cs∧val (cs.take (i+j))=val (l.take i)*val m∧G w wr) (fun vk _=>n-(intOf vk).toNat)
 case atStart=>exact⟨0,List.replicate (n+j) 0,Nat.zero_le _,rfl,by simp,q0C w (n+j) 187,by rw[List.take_replicate,q1Q];simp [val],(G.refl _).alloc _⟩
 case round=>
  obtain⟨i,cs,hi,rfl,hcs,hown,hval,hG⟩:=hrel;have HV:Hid _:=hval;have HC:Hid _:=hcs;have HO:Hid _:=hown;clear hval hcs hown;by_cases hin:i<n
  ·obtain⟨b1,o1,rfl,hB1,hc1'⟩:=HA.out i hin;have hx:=q05 aN i;go_wp2_with fail
   go_loopw [7,8] (fun vc vt wr=>∃ (t c:Nat) (cs:List Nat),t≤j∧vt= .int .i64 t∧vc= .int .u64 c∧c<2^32∧cs.length=n+j∧Own wr w.heap.size cs∧val (cs.take (i+j))+2^(32*(i+t))*c=val (l.take i)*val m+2^(32*i)*(l.getD i 0*val (m.take t))∧G w wr) (fun _ vt _=>j-(intOf vt).toNat)
   case atStart=>exact⟨0,0,cs,Nat.zero_le _,rfl,rfl,by omega,HC.out,HO.out,by rw[HV.out];simp [val],hG⟩
   case round=>
    obtain⟨t,c,cs,ht,rfl,rfl,hc,hcs,hown,hval,hG⟩:=hrel;have vv:Hid _:=hval;have iQ:Hid _:=hcs;have iT:Hid _:=hown;clear hval hcs hown;have hci:(c:Int)≤4294967295:=by omega
    by_cases htj:t<j
    ·obtain⟨b2,o2,rfl,hB2,hc2'⟩:=HB.out t htj;have hc1:=hG.cell (p:=⟨b1,o1+i,none⟩) hB1 hc1';have hc2:=hG.cell (p:=⟨b2,o2+t,none⟩) hB2 hc2';clear hc1' hc2';have hy:=q05 fO t;have hz:=q05 (iT.out:Own wr w.heap.size cs).1 (i+t);have ho:=Own.cell (w:=wr) (b:=w.heap.size) (l:=cs) (i:=i+t) iT.out (by rw[iQ.out];omega);have hf:=Own.frozen (w:=wr) (b:=w.heap.size) (l:=cs) (i:=i+t) iT.out (by rw[iQ.out];omega);obtain⟨p,r,q,hw0,hpb,hw3,hw4,hq,hr,he⟩:=qcg c _ _ _ hc hx hy hz;have HS:Hid _:=q98 (N:=i+j) (by omega) (by rw[iQ.out];omega) vv.out he;have HQ:Hid _:=hq;have HR:Hid _:=hr;have hxi:((l.getD i 0:Nat):Int)≤4294967295:=by omega
     have hyi:((m.getD t 0:Nat):Int)≤4294967295:=by omega
     have hzi:((cs.getD (i+t) 0:Nat):Int)≤4294967295:=by omega
     have hpi:(p:Int)≤18446744065119617025:=by omega
     generalize l.getD i 0=x at *;generalize m.getD t 0=y at *;generalize cs.getD (i+t) 0=z at *;clear hq hr he hx hy hz;have hs1:b1<wr.heap.size:=Nat.lt_of_lt_of_le hB1 hG.size;have hs2:b2<wr.heap.size:=Nat.lt_of_lt_of_le hB2 hG.size;have hs3:w.heap.size<wr.heap.size:=(iT.out:Own wr w.heap.size cs).2.1;clear hB1 hB2;go_wp2_with fail;refine q0f (by kernel_rfl) (by kernel_rfl) ?_;intro W hW;have hq1:=q08 (w:=W) (a:=⟨b1,o1+i,none⟩) (x:= .int .u32 (x:Int)) (by rw[hW];first|(simp;done)|(simp;omega)|omega) (by rw[hW];first|assumption|(simp [go_sem];done)|(simp [*,go_sem];done));have hq2:=q08 (w:=W) (a:=⟨b2,o2+t,none⟩) (x:= .int .u32 (y:Int)) (by rw[hW];first|(simp;done)|(simp;omega)|omega) (by rw[hW];first|assumption|(simp [go_sem];done)|(simp [*,go_sem];done));have hq3:=q08 (w:=W) (a:=⟨w.heap.size,i+t,none⟩) (x:= .int .u32 (z:Int)) (by rw[hW];first|(simp;done)|(simp;omega)|omega) (by rw[hW];first|assumption|(simp [go_sem];done)|(simp [*,go_sem];done));clear hW
     repeat (go_big_quiet_step (fail))
     refine wpQuiet_nil ?_;clear hq1 hq2 hq3;intro w1 hw1;have ho1:=hw1.cell hs3 ho;have hf1:=hw1.frozen hs3 hf;have wH:Hid (Own w1 w.heap.size cs):=Own.grow iT.out hw1;have hG1:=hG.trans hw1;clear ho hf hc1 hc2;go_wp2_with fail
     go_roundw
     case rel=>exact⟨t+1,q,cs.set (i+t) r,by omega,by go_num,rfl,HQ.out,by rw[List.length_set];exact iQ.out,Own.set wH.out (i+t) r (by rw[iQ.out];omega) HR.out,HS.out,hG1.setCell (Nat.le_refl _) _⟩
     case measure=>simp only[intOf];omega
    ·obtain rfl:t=j:=by omega
     have ho:=Own.cell (w:=wr) (b:=w.heap.size) (l:=cs) (i:=i+t) iT.out (by rw[iQ.out];omega);have hf:=Own.frozen (w:=wr) (b:=w.heap.size) (l:=cs) (i:=i+t) iT.out (by rw[iQ.out];omega);generalize cs.getD (i+t) 0=z at *;have HK:Hid (c<2^32):=hc;have HS:Hid _:=qaO (l:=l) (m:=m) (by rw[iQ.out];omega) HJ.out rfl vv.out;clear hc;go_wp2_with fail
     go_roundw
     case rel=>exact⟨i+1,cs.set (i+t) c,by omega,by go_num,by rw[List.length_set];exact iQ.out,Own.set iT.out (i+t) c (by rw[iQ.out];omega) HK.out,HS.out,hG.setCell (Nat.le_refl _) _⟩
     case measure=>simp only[intOf];omega
  ·obtain rfl:i=n:=by omega
   have hT:Hid _:=q0G (HO.out:Own wr w.heap.size cs) HC.out (by omega);have q2:val cs=val l*val m:=by
    have h1:=HV.out
    rwa[List.take_of_length_le (by rw[HC.out];omega),List.take_of_length_le (by rw[HN.out];omega)] at h1
   rw[q2] at hT;clear q2;go_wp2_with fail;refine Calls.mono (P:=Tryz.prog) hT.out ?_;rintro e w1 ⟨v1,rfl,hb1,hn1⟩;go_wp2_with fail;go_ret;exact⟨v1,rfl,G.trans hG hb1,hn1⟩
theorem q1v (n t:Nat):(List.replicate n 0).getD t 0=0:=by
 rw[List.getD_eq_getElem?_getD,List.getElem?_replicate];split<;>rfl
theorem q2X (w:World) (va:Value) (a:Nat) (ha:Num w va a):
  Calls Tryz.prog 220 #[va] w fun e w'=>e= .returned (.int .u64 ((a%2^64:Nat):Int))∧G w w':=by
 obtain⟨l,hl,hcl,rfl⟩:=ha;have hok:=hl.1;rcases Sl.cases hl with ⟨rfl,p,c,rfl⟩|⟨hne,b,o,c,rfl,hc,hb,hr⟩
 ·rw[show val []%2^64=0 from rfl];go_enter Tryz.func220,Tryz.ntmps220;go_wp2_with fail;go_ret;exact⟨rfl,G.refl _⟩
 ·have hr0:=hr 0 (List.length_pos_iff.2 hne);rw[Nat.add_zero] at hr0;have h0:=q05 hok 0;by_cases hl1:l.length=1
  ·have hv:val l%2^64=l.getD 0 0:=by
    match l,hl1 with
    |[d],_=>simp only[val,List.getD_cons_zero] at h0 ⊢;omega
   rw[hv,hl1] at *;generalize l.getD 0 0=d0 at *;have Jf:(d0:Int)≤4294967295:=by omega
   clear hr hv h0 hl hcl hok hne;go_enter Tryz.func220,Tryz.ntmps220;go_wp2_with fail;go_ret;exact⟨rfl,G.refl _⟩
  ·have hl2:1<l.length:=by have:=List.length_pos_iff.2 hne;omega
   have hr1:=hr 1 hl2;have h1:=q05 hok 1;have hv:val l%2^64=l.getD 0 0+l.getD 1 0*2^32:=by
    match l,hl2 with
    |d::e::l',_=>simp only[val,List.getD_cons_zero,List.getD_cons_succ] at h0 h1 ⊢;omega
   rw[hv];generalize l.getD 0 0=d0 at *;generalize l.getD 1 0=d1 at *;have Jf:(d0:Int)≤4294967295:=by omega
   have Nc:(d1:Int)≤4294967295:=by omega
   have hor:bits .or .u64 (d0:Int) ((d1:Int)*4294967296)=((d0+d1*2^32:Nat):Int):=by
    have e1:(d1:Int)*4294967296=((d1*2^32:Nat):Int):=by omega
    rw[e1,u64_or_nat d0 (d1*2^32) (by omega) (by omega),Nat.or_comm,nat_join 32 (d1*2^32) d0 (by omega) h0,Nat.add_comm]
   generalize d0+d1*2^32=u at *;generalize l.length=k at *;have hk2:(1:Int)<k:=by omega
   clear hr hv h0 h1 hl hcl hok hne hl1 hl2;go_enter Tryz.func220,Tryz.ntmps220;go_wp2_with fail;go_ret;exact⟨rfl,G.refl _⟩
theorem q7G (x y s:Nat) (hx:x<2^32) (hs:s≤31) (hy:y<2^s):∃ v lo hi:Nat,
  IntKind.u64.wrap ((x:Int)*2^s)=v∧bits .or .u32 (y:Int) ((v:Int)%4294967296)=lo∧bits .or .u32 (0:Int) ((v:Int)/4294967296%4294967296)=hi∧lo<2^32∧hi<2^s∧hi<2^32∧y+x*2^s=lo+2^32*hi:=by
 have hp:2^s≤2^31:=Nat.pow_le_pow_right (by omega) hs;have hp0:=Nat.two_pow_pos s;have e1:x*2^s<2^32*2^s:=Nat.mul_lt_mul_of_pos_right hx hp0;have e2:x*2^s%2^32=(x%2^(32-s))*2^s:=by
  have:2^32=2^(32-s)*2^s:=by rw[← Nat.pow_add];congr 1;omega
  rw[this,Nat.mul_mod_mul_right]
 have e3:(x%2^(32-s))*2^s+2^s≤2^32:=by
  have h1:x%2^(32-s)<2^(32-s):=Nat.mod_lt _ (Nat.two_pow_pos _);have h2:(x%2^(32-s)+1)*2^s≤2^(32-s)*2^s:=Nat.mul_le_mul_right _ h1;rw[← Nat.pow_add,show 32-s+s=32 from by omega,Nat.add_mul,Nat.one_mul] at h2;exact h2
 have e4:x*2^s%2^32%2^s=0:=by rw[e2];exact Nat.mul_mod_left _ _
 have e5:x*2^s/2^32<2^s:=Nat.div_lt_of_lt_mul e1;have e6:((x:Int)*2^s)=((x*2^s:Nat):Int):=by push_cast;rfl
 rw[← e2] at e3;rw[e6];generalize hg:x*2^s=v at *;generalize hps:2^s=ps at *;refine⟨v,v%2^32+y,v/2^32,?_,?_,?_,by omega,by omega,by omega,by omega⟩
 ·rw[IntKind.wrap_u64];omega
 ·rw[show (v:Int)%4294967296=((v%2^32:Nat):Int) from by omega,u32_or_nat _ _ (by omega) (by omega),Nat.or_comm];subst hps;rw[nat_join s _ y e4 hy]
 ·rw[show (v:Int)/4294967296%4294967296=((v/2^32:Nat):Int) from by omega];have:=u32_or_nat 0 (v/2^32) (by omega) (by omega);rw[Nat.zero_or] at this;exact this
theorem getD_set_ne {l:List Nat} {i t x:Nat} (h:i≠t):(l.set i x).getD t 0=l.getD t 0:=by
 rw[List.getD_eq_getElem?_getD,List.getD_eq_getElem?_getD,List.getElem?_set_ne h]
/-- One step of a shift to the left. -/
theorem left_step {cs l:List Nat} {i q s n lo hi:Nat} (hp:i+q+1<cs.length) (hn:n=32*q+s)
  (hv:val (cs.take (i+q+1))=val (l.take i)*2^n) (he:cs.getD (i+q) 0+l.getD i 0*2^s=lo+2^32*hi):
  val (((cs.set (i+q) lo).set (i+q+1) hi).take (i+1+q+1))=val (l.take (i+1))*2^n:=by
 rw[show i+1+q+1=i+q+1+1 from by omega,q0j (by rw[List.length_set];exact hp),q0j (by omega),q07 l,Nat.add_mul,← hv,q07 cs];rw[show 2^(32*i)*l.getD i 0*2^n=2^(32*(i+q))*(l.getD i 0*2^s) from by
  rw[hn,Nat.mul_add 32 i q,Nat.pow_add,Nat.pow_add];rw[Nat.mul_assoc,Nat.mul_assoc,Nat.mul_left_comm (l.getD i 0)]]
 have h3:2^(32*(i+q))*(cs.getD (i+q) 0+l.getD i 0*2^s)=2^(32*(i+q))*(lo+2^32*hi):=by rw[he]
 rw[Nat.mul_add (2^(32*(i+q))),Nat.mul_add (2^(32*(i+q)))] at h3;rw[show 32*(i+q+1)=32*(i+q)+32 from by omega,Nat.pow_add,Nat.mul_assoc];omega
theorem q21 (w:World) (va:Value) (a n K:Nat) (hK:K≤500000) (hn:n≤10000000) (ha:Num w va a) (ha2:a<2^(32*K)):
  Calls Tryz.prog 143 #[va,.int .u64 (n:Int)] w (q0e w (a*2^n)):=by
 obtain⟨l,hl,hcl,rfl⟩:=ha;have hll:=q06 hcl ha2;clear ha2;have aN:=hl.1;obtain⟨pa,ca,rfl,dL,hra⟩:=q0n hl;have HA:Hid _:=hra;clear hra hl;generalize hln:l.length=j at *;have HN:Hid _:=hln;clear hln;by_cases hj0:j=0
 ·subst hj0;have hl0:l=[]:=List.eq_nil_of_length_eq_zero HN.out;subst hl0;go_enter Tryz.func143,Tryz.ntmps143;go_wp2_with fail;go_ret;exact⟨_,rfl,G.refl _,by rw[show val []=0 from rfl,Nat.zero_mul];exact num_nil _ _ _⟩
 have t0:((j:Int)==0)=false:=by simp;omega
 have hd1:(n:Int)/32=((n/32:Nat):Int):=by omega
 have hd2:(n:Int)%32=((n%32:Nat):Int):=by omega
 have hnn:n=32*(n/32)+n%32:=by omega
 have hs:((n%32:Nat):Int)≤31:=by omega
 have hq:((n/32:Nat):Int)≤312500:=by omega
 generalize n/32=q at *;generalize n%32=s at *;have kP:Hid _:=hnn;have hnb:(n:Int)≤10000000:=by omega
 clear hnn hn;have hmk:=q1e (j+q+1) (by omega);rw[show ((j+q+1:Nat):Int)=(j:Int)+q+1 from by omega] at hmk;go_enter Tryz.func143,Tryz.ntmps143;go_wp2_with fail
 go_loopw [8] (fun vk wr=>∃ (i:Nat) (cs:List Nat),i≤j∧vk= .int .i64 i∧cs.length=j+q+1∧Own wr w.heap.size cs∧val (cs.take (i+q+1))=val (l.take i)*2^n∧cs.getD (i+q) 0<2^s∧(∀ t,i+q<t→cs.getD t 0=0)∧G w wr) (fun vk _=>j-(intOf vk).toNat)
 case atStart=>exact⟨0,List.replicate (j+q+1) 0,Nat.zero_le _,rfl,by simp,q0C w (j+q+1) 187,by rw[List.take_replicate,q1Q];simp [val],by rw[q1v];exact Nat.two_pow_pos _,fun t _=>q1v _ _,(G.refl _).alloc _⟩
 case round=>
  obtain⟨i,cs,hi,rfl,hcs,hown,hval,hlow,hup,hG⟩:=hrel;have HV:Hid _:=hval;have HC:Hid _:=hcs;have HO:Hid _:=hown;have HL:Hid _:=hlow;have HU:Hid _:=hup;clear hval hcs hown hlow hup;by_cases hin:i<j
  ·obtain⟨b1,o1,rfl,hB1,hc1'⟩:=HA.out i hin;have hx:=q05 aN i;have hc1:=hG.cell (p:=⟨b1,o1+i,none⟩) hB1 hc1';clear hc1' hB1;have ho:=Own.cell (w:=wr) (b:=w.heap.size) (l:=cs) (i:=i+q) HO.out (by rw[HC.out];omega);have hf:=Own.frozen (w:=wr) (b:=w.heap.size) (l:=cs) (i:=i+q) HO.out (by rw[HC.out];omega);have ho2:=Own.cell (w:=wr) (b:=w.heap.size) (l:=cs) (i:=i+q+1) HO.out (by rw[HC.out];omega);have hf2:=Own.frozen (w:=wr) (b:=w.heap.size) (l:=cs) (i:=i+q+1) HO.out (by rw[HC.out];omega);have hu:=HU.out (i+q+1) (by omega);rw[hu] at ho2;obtain⟨v,lo,hi2,hw1,hw2,hw3,hlo,hhi,hhi2,he⟩:=q7G _ _ s hx (by omega) HL.out;have HS:Hid _:=left_step (by rw[HC.out];omega) kP.out HV.out he;have Jg:Hid _:=hlo;have Jh:Hid _:=hhi;have Ji:Hid _:=hhi2;have hxi:((l.getD i 0:Nat):Int)≤4294967295:=by omega
   generalize l.getD i 0=x at *;generalize cs.getD (i+q) 0=z at *;clear hlo hhi hhi2 he hx hu;go_wp2_with fail
   go_roundw
   case rel=>exact⟨i+1,(cs.set (i+q) lo).set (i+q+1) hi2,by omega,by go_num,by rw[List.length_set,List.length_set];exact HC.out,Own.set (Own.set HO.out (i+q) lo (by rw[HC.out];omega) Jg.out) (i+q+1) hi2 (by rw[List.length_set,HC.out];omega) Ji.out,HS.out,by rw[show i+1+q=i+q+1 from by omega,q0g (by rw[List.length_set,HC.out];omega)];exact Jh.out,fun t ht=>by rw[getD_set_ne (by omega),getD_set_ne (by omega)];exact HU.out t (by omega),(hG.setCell (Nat.le_refl _) _).setCell (Nat.le_refl _) _⟩
   case measure=>simp only[intOf];omega
  ·obtain rfl:i=j:=by omega
   have hT:Hid _:=q0G (HO.out:Own wr w.heap.size cs) HC.out (by omega);have q2:val cs=val l*2^n:=by
    have h1:=HV.out
    rwa[List.take_of_length_le (by rw[HC.out];omega),List.take_of_length_le (by rw[HN.out];omega)] at h1
   rw[q2] at hT;clear q2;go_wp2_with fail;refine Calls.mono (P:=Tryz.prog) hT.out ?_;rintro e w1 ⟨v1,rfl,hb1,hn1⟩;go_wp2_with fail;go_ret;exact⟨v1,rfl,G.trans hG hb1,hn1⟩
theorem q1m {l:List Nat} (h:okw l) (k:Nat):val (l.drop k)=val l/2^(32*k):=by
 by_cases hk:k≤l.length
 ·have h1:=q0B l k hk;have h2:=q0u h k hk;rw[h1,Nat.add_mul_div_left _ _ (Nat.two_pow_pos _),Nat.div_eq_of_lt h2,Nat.zero_add]
 ·rw[List.drop_eq_nil_of_le (by omega)];have h1:=q0v h;have h2:2^(32*l.length)≤2^(32*k):=Nat.pow_le_pow_right (by omega) (by omega);rw[Nat.div_eq_of_lt (by omega)];rfl
theorem q5X (x y Z s:Nat) (hs:s≤31):(x+2^32*(y+2^32*Z))/2^s%2^32=(x+y*2^32)/2^s%2^32:=by
 have e:x+2^32*(y+2^32*Z)=(x+y*2^32)+2^s*(2^32*(2^(32-s)*Z)):=by
  have:2^s*(2^32*(2^(32-s)*Z))=2^32*(2^32*Z):=by
   rw[Nat.mul_left_comm,← Nat.mul_assoc (2^s),← Nat.pow_add,show s+(32-s)=32 from by omega]
  rw[this];omega
 rw[e,Nat.add_mul_div_left _ _ (Nat.two_pow_pos _),Nat.add_mul_mod_self_left]
theorem qan (x y s:Nat) (hx:x<2^32) (hy:y<2^32):∃ v d:Nat,
  bits .or .u64 (x:Int) ((y:Int)*4294967296)=v∧IntKind.u32.wrap ((v:Int)/2^s)=d∧d<2^32∧d=(x+y*2^32)/2^s%2^32:=by
 refine⟨x+y*2^32,(x+y*2^32)/2^s%2^32,?_,?_,Nat.mod_lt _ (by omega),rfl⟩
 ·rw[show (y:Int)*4294967296=((y*2^32:Nat):Int) from by omega,u64_or_nat _ _ (by omega) (by omega),Nat.or_comm,nat_join 32 _ x (by omega) hx,Nat.add_comm]
 ·rw[IntKind.wrap_u32];generalize x+y*2^32=v;have:(v:Int)/2^s=((v/2^s:Nat):Int):=by push_cast;rfl
  rw[this];omega
/-- One step of a shift to the right. -/
theorem right_step {cs l:List Nat} {i q s d W:Nat} (hl:okw l) (hi:i<cs.length) (hW:W=val (l.drop q)/2^s) (hs:s≤31)
  (hv:val (cs.take i)=W%2^(32*i)) (hq:i+q<l.length) (hd:d=(l.getD (i+q) 0+l.getD (i+q+1) 0*2^32)/2^s%2^32):
  val ((cs.set i d).take (i+1))=W%2^(32*(i+1)):=by
 rw[q0j hi,hv,show 32*(i+1)=32*i+32 from by omega,Nat.pow_add,Nat.mod_mul]
 congr 2
 have h1:W/2^(32*i)=val (l.drop (i+q))/2^s:=by
  rw[hW,Nat.div_div_eq_div_mul,Nat.mul_comm,← Nat.div_div_eq_div_mul,← q1m (q2v hl q),List.drop_drop,Nat.add_comm q i]
 rw[h1,hd,q0h hq];have h2:val (l.drop (i+q+1))=l.getD (i+q+1) 0+2^32*val (l.drop (i+q+2)):=by
  by_cases h:i+q+1<l.length
  ·rw[q0h h];rfl
  ·rw[List.drop_eq_nil_of_le (by omega),List.drop_eq_nil_of_le (by omega),List.getD_eq_getElem?_getD,List.getElem?_eq_none (by omega)];rfl
 show _=(l.getD (i+q) 0+2^32*val (l.drop (i+q+1)))/2^s%2^32;rw[h2,q5X _ _ _ _ hs]
theorem q1b (w:World) (va:Value) (a n K:Nat) (hK:K≤1000000) (hn:n≤40000000) (ha:Num w va a) (ha2:a<2^(32*K)):
  Calls Tryz.prog 173 #[va,.int .u64 (n:Int)] w (q0e w (a/2^n)):=by
 obtain⟨l,hl,hcl,rfl⟩:=ha;have hll:=q06 hcl ha2;clear ha2;have aN:=hl.1;obtain⟨pa,ca,rfl,dL,hra⟩:=q0n hl;have HA:Hid _:=hra;clear hra hl;have hd1:(n:Int)/32=((n/32:Nat):Int):=by omega
 have hd2:(n:Int)%32=((n%32:Nat):Int):=by omega
 have hnn:n=32*(n/32)+n%32:=by omega
 have hs:((n%32:Nat):Int)≤31:=by omega
 have hq:((n/32:Nat):Int)≤1250000:=by omega
 generalize n/32=q at *;generalize n%32=s at *;have kP:Hid _:=hnn;have hnb:(n:Int)≤40000000:=by omega
 clear hnn hn;by_cases hqj:l.length≤q
 ·have hz:val l/2^n=0:=by
   have h1:=q0v aN;have h2:2^(32*l.length)≤2^n:=Nat.pow_le_pow_right (by omega) (by rw[kP.out];omega);exact Nat.div_eq_of_lt (by omega)
  rw[hz];generalize l.length=j at *;have t0:(j:Int)≤q:=by omega
  go_enter Tryz.func173,Tryz.ntmps173;go_wp2_with fail;go_ret;exact⟨_,rfl,G.refl _,num_nil _ _ _⟩
 ·generalize hln:l.length=j at *;have HN:Hid _:=hln;clear hln;have t0:¬ (j:Int)≤q:=by omega
  obtain⟨k,hk⟩:∃ k,j=k+q:=⟨j-q,by omega⟩;have hjq:(j:Int)-q=k:=by omega
  have hkb:(k:Int)≤1000000:=by omega
  have hmk:=q1e k (by omega);have HK:Hid _:=hk;clear hk;go_enter Tryz.func173,Tryz.ntmps173;go_wp2_with fail
  go_loopw [8] (fun vk wr=>∃ (i:Nat) (cs:List Nat),i≤k∧vk= .int .i64 i∧cs.length=k∧Own wr w.heap.size cs∧val (cs.take i)=val (l.drop q)/2^s%2^(32*i)∧G w wr) (fun vk _=>k-(intOf vk).toNat)
  case atStart=>exact⟨0,List.replicate k 0,Nat.zero_le _,rfl,by simp,q0C w k 187,by simp [val,Nat.mod_one],(G.refl _).alloc _⟩
  case round=>
   obtain⟨i,cs,hi,rfl,hcs,hown,hval,hG⟩:=hrel;have HV:Hid _:=hval;have HC:Hid _:=hcs;have HO:Hid _:=hown;clear hval hcs hown;by_cases hik:i<k
   ·have FJ:i+q<j:=by have:=HK.out;omega
    obtain⟨b1,o1,rfl,hB1,hc1'⟩:=HA.out (i+q) FJ;have hc1:=hG.cell (p:=⟨b1,o1+(i+q),none⟩) hB1 hc1';clear hc1' hB1;have hx:=q05 aN (i+q);have hy:=q05 aN (i+q+1);have ho:=Own.cell (w:=wr) (b:=w.heap.size) (l:=cs) (i:=i) HO.out (by rw[HC.out];omega);have hf:=Own.frozen (w:=wr) (b:=w.heap.size) (l:=cs) (i:=i) HO.out (by rw[HC.out];omega);obtain⟨v,d,hw1,hw2,hd,he⟩:=qan _ _ s hx hy;have HS:Hid _:=right_step (cs:=cs) (d:=d) aN (by rw[HC.out];exact hik) rfl (by omega) HV.out (by rw[HN.out];exact FJ) he;have HD:Hid _:=hd;have hxi:((l.getD (i+q) 0:Nat):Int)≤4294967295:=by omega
    have hyi:((l.getD (i+q+1) 0:Nat):Int)≤4294967295:=by omega
    by_cases Je:i+q+1<j
    ·obtain⟨b2,o2,he2,hB2,hc2'⟩:=HA.out (i+q+1) Je;cases he2;have hc2:=hG.cell (p:=⟨b1,o1+(i+q+1),none⟩) hB2 hc2';clear hc2' hB2;generalize l.getD (i+q) 0=x at *;generalize l.getD (i+q+1) 0=y at *;generalize cs.getD i 0=z at *;clear hd he hx hy;go_wp2_with fail
     go_roundw
     case rel=>exact⟨i+1,cs.set i d,by omega,by go_num,by rw[List.length_set];exact HC.out,Own.set HO.out i d (by rw[HC.out];omega) HD.out,HS.out,hG.setCell (Nat.le_refl _) _⟩
     case measure=>simp only[intOf];omega
    ·have hy0:l.getD (i+q+1) 0=0:=by rw[List.getD_eq_getElem?_getD,List.getElem?_eq_none (by rw[HN.out];omega)];rfl
     have hv:(v:Int)=((l.getD (i+q) 0:Nat):Int):=by
      rw[← hw1,hy0];have:=u64_or_nat (l.getD (i+q) 0) 0 (by omega) (by omega);rw[Nat.or_zero] at this;exact this
     rw[hv] at hw2;generalize l.getD (i+q) 0=x at *;generalize cs.getD i 0=z at *;clear hd he hx hy hy0 hw1 hv hyi;go_wp2_with fail
     go_roundw
     case rel=>exact⟨i+1,cs.set i d,by omega,by go_num,by rw[List.length_set];exact HC.out,Own.set HO.out i d (by rw[HC.out];omega) HD.out,HS.out,hG.setCell (Nat.le_refl _) _⟩
     case measure=>simp only[intOf];omega
   ·obtain rfl:i=k:=by omega
    have hT:Hid _:=q0G (HO.out:Own wr w.heap.size cs) HC.out (by omega);have q2:val cs=val l/2^n:=by
     have h1:=HV.out;rw[List.take_of_length_le (by rw[HC.out];omega)] at h1;have h2:=q0v (q2v aN q);rw[List.length_drop,HN.out,HK.out,Nat.add_sub_cancel] at h2;rw[h1,Nat.mod_eq_of_lt (Nat.lt_of_le_of_lt (Nat.div_le_self _ _) h2),q1m aN,Nat.div_div_eq_div_mul,← Nat.pow_add,kP.out]
    rw[q2] at hT;clear q2;go_wp2_with fail;refine Calls.mono (P:=Tryz.prog) hT.out ?_;rintro e w1 ⟨v1,rfl,hb1,hn1⟩;go_wp2_with fail;go_ret;exact⟨v1,rfl,G.trans hG hb1,hn1⟩
theorem qa2 (r x d:Nat) (hr:r<d) (hx:x<2^32) (hd:d<2^32):∃ R q r':Nat,
  bits .or .u64 ((r:Int)*4294967296) (x:Int)=R∧IntKind.u64.wrap ((R:Int)/d)=q∧(q:Int)%4294967296=q∧(R:Int)%d=r'∧r'<d∧q<2^32∧r*2^32+x=q*d+r':=by
 have h1:(r*2^32+x)/d<2^32:=by
  rw[Nat.div_lt_iff_lt_mul (by omega)];have:(r+1)*2^32≤d*2^32:=Nat.mul_le_mul_right _ hr;rw[Nat.mul_comm (2^32) d];omega
 refine⟨r*2^32+x,(r*2^32+x)/d,(r*2^32+x)%d,?_,?_,?_,?_,Nat.mod_lt _ (by omega),h1,?_⟩
 ·rw[show (r:Int)*4294967296=((r*2^32:Nat):Int) from by omega,u64_or_nat _ _ (by omega) (by omega),nat_join 32 _ x (by omega) hx]
 ·rw[IntKind.wrap_u64,← Int.natCast_ediv];generalize (r*2^32+x)/d=q at *;omega
 ·generalize (r*2^32+x)/d=q at *;omega
 ·rw[← Int.natCast_emod]
 ·exact(Nat.div_add_mod' _ _).symm
/-- One step of a division by a word. -/
theorem q6O {cs l:List Nat} {k r q r' d:Nat} (hk:k<cs.length) (hl:k<l.length)
  (hv:val (l.drop (k+1))=val (cs.drop (k+1))*d+r) (he:r*2^32+l.getD k 0=q*d+r'):
  val (l.drop k)=val ((cs.set k q).drop k)*d+r':=by
 rw[q0h hl,q0h (l:=cs.set k q) (by simpa using hk),q0g hk,List.drop_set_of_lt (by omega)];show l.getD k 0+2^32*val (l.drop (k+1))=(q+2^32*val (cs.drop (k+1)))*d+r';rw[hv,Nat.add_mul,Nat.mul_add,← Nat.mul_assoc];omega
theorem qa7 (w:World) (va:Value) (a d K:Nat) (hK:K≤1000000) (hd0:0<d) (hd:d<2^32) (ha:Num w va a) (ha2:a<2^(32*K)):
  Calls Tryz.prog 221 #[va,.int .u32 (d:Int)] w fun e w'=>∃ v,e= .returned (.tuple #[v,.int .u32 ((a%d:Nat):Int)])∧G w w'∧Num w' v (a/d):=by
 obtain⟨l,hl,hcl,rfl⟩:=ha;have hll:=q06 hcl ha2;clear ha2;have aN:=hl.1;obtain⟨pa,ca,rfl,dL,hra⟩:=q0n hl;have HA:Hid _:=hra;clear hra hl;generalize hln:l.length=j at *;have HN:Hid _:=hln;clear hln;have hmk:=q1e j (by omega);have hdi:(d:Int)≤4294967295:=by omega
 have hdn:((d:Int)==0)=false:=by simp;omega
 go_enter Tryz.func221,Tryz.ntmps221;go_wp2_with fail
 go_loopw [7,8] (fun vr vk wr=>∃ (t r:Nat) (cs:List Nat),t≤j∧vk= .int .i64 ((t:Int)-1)∧vr= .int .u64 r∧r<d∧cs.length=j∧Own wr w.heap.size cs∧val (l.drop t)=val (cs.drop t)*d+r∧G w wr) (fun _ vk _=>(intOf vk+1).toNat)
 case atStart=>exact⟨j,0,List.replicate j 0,Nat.le_refl _,rfl,rfl,hd0,by simp,q0C w j 187,by rw[List.drop_eq_nil_of_le (by rw[HN.out];exact Nat.le_refl _),List.drop_eq_nil_of_le (by simp)];simp [val],(G.refl _).alloc _⟩
 case round=>
  obtain⟨t,r,cs,ht,rfl,rfl,hr,hcs,hown,hval,hG⟩:=hrel;have HV:Hid _:=hval;have HC:Hid _:=hcs;have HO:Hid _:=hown;clear hval hcs hown;cases t with
  |succ k=>
   obtain⟨b1,o1,rfl,hB1,hc1'⟩:=HA.out k (by omega);have hc1:=hG.cell (p:=⟨b1,o1+k,none⟩) hB1 hc1';clear hc1' hB1;have hx:=q05 aN k;have ho:=Own.cell (w:=wr) (b:=w.heap.size) (l:=cs) (i:=k) HO.out (by rw[HC.out];omega);have hf:=Own.frozen (w:=wr) (b:=w.heap.size) (l:=cs) (i:=k) HO.out (by rw[HC.out];omega);obtain⟨R,q,r',hw1,hw2,hw4,hw3,hr',hq,he⟩:=qa2 r _ d hr hx hd;have HS:Hid _:=q6O (cs:=cs) (l:=l) (by rw[HC.out];omega) (by rw[HN.out];omega) HV.out he;have HQ:Hid _:=hq;have HR:Hid _:=hr';have hxi:((l.getD k 0:Nat):Int)≤4294967295:=by omega
   have FZ:(r:Int)≤4294967295:=by omega
   generalize l.getD k 0=x at *;generalize cs.getD k 0=z at *;clear he hq hr' hx;go_wp2_with fail;simp only[hw3]
   go_roundw
   case rel=>exact⟨k,r',cs.set k q,by omega,by congr 1,rfl,HR.out,by rw[List.length_set];exact HC.out,Own.set HO.out k q (by rw[HC.out];omega) HQ.out,HS.out,hG.setCell (Nat.le_refl _) _⟩
   case measure=>simp [intOf]
  |zero=>
   have hT:Hid _:=q0G (HO.out:Own wr w.heap.size cs) HC.out (by omega);have q1:val l=val cs*d+r:=HV.out;have q2:val cs=val l/d:=by
    rw[q1,Nat.mul_comm,Nat.mul_add_div hd0,Nat.div_eq_of_lt hr,Nat.add_zero]
   have q3:r=val l%d:=by
    rw[q1,Nat.mul_comm,Nat.mul_add_mod,Nat.mod_eq_of_lt hr]
   rw[q2] at hT;have Q3:Hid _:=q3;have hw:IntKind.u32.wrap (r:Int)=(r:Int):=by rw[IntKind.wrap_u32];omega
   have FZ:(r:Int)≤4294967295:=by omega
   clear q1 q2 q3;go_wp2_with fail;refine Calls.mono (P:=Tryz.prog) hT.out ?_;rintro e w1 ⟨v1,rfl,hb1,hn1⟩;go_wp2_with fail
   go_ret2
   exact⟨v1,by rw[← Q3.out];rfl,G.trans hG hb1,hn1⟩
/-- The length of a number in bits. -/
def blen (a:Nat):Nat:=if a=0 then 0 else a.log2+1
theorem q5S {a k:Nat} (h:a<2^k) (h2:k=0∨2^(k-1)≤a):blen a=k:=by
 unfold blen;rcases Nat.eq_zero_or_pos k with rfl|hk
 ·rw[if_pos (by simpa using h)]
 ·have h3:2^(k-1)≤a:=by rcases h2 with h2|h2;omega;exact h2
  have:=Nat.two_pow_pos (k-1);rw[if_neg (by omega),(Nat.log2_eq_iff (by omega)).2 ⟨h3,by rw[Nat.sub_add_cancel hk];exact h⟩];omega
theorem q28 {l:List Nat} {n:Nat} (h:canon l) (hn:l.length=n+1):l.getD n 0≠0:=by
 have hne:l≠[]:=by intro e;rw[e] at hn;simp at hn
 have:=h.2 hne;rw[List.getLast_eq_getElem] at this;rw[List.getD_eq_getElem?_getD,List.getElem?_eq_getElem (by omega)];simpa [hn] using this
theorem q45 (w:World) (va:Value) (a K:Nat) (hK:K≤1000000) (ha:Num w va a) (ha2:a<2^(32*K)):
  Calls Tryz.prog 146 #[va] w fun e w'=>e= .returned (.int .i64 (blen a))∧G w w':=by
 obtain⟨l,hl,hcl,rfl⟩:=ha;have hll:=q06 hcl ha2;clear ha2;have aN:=hl.1;obtain⟨pa,ca,rfl,dL,hra⟩:=q0n hl;have HA:Hid _:=hra;clear hra hl;generalize hln:l.length=j at *;have HN:Hid _:=hln;clear hln;cases j with
 |zero=>
  have hl0:l=[]:=List.eq_nil_of_length_eq_zero HN.out;subst hl0;rw[show blen (val [])=0 from rfl];go_enter Tryz.func146,Tryz.ntmps146;go_wp2_with fail;go_ret;exact⟨rfl,G.refl _⟩
 |succ n=>
  obtain⟨b1,o1,rfl,hB1,hc1⟩:=HA.out n (by omega);have hx:=q05 aN n;have hx0:=q28 hcl HN.out;have hv:∀ k,k≤32→l.getD n 0<2^k→2^(k-1)≤l.getD n 0→blen (val l)=n*32+k:=by
   intro k hk h1 h2;have h3:=q0t (l:=l) (k:=n) (by rw[HN.out];omega);rw[List.drop_eq_nil_of_le (by rw[HN.out];omega)] at h3;have h4:=q0u aN n (by rw[HN.out];omega);have hk0:k≠0:=by rintro rfl;simp at h1;exact hx0 h1
   simp only[val,Nat.mul_zero,Nat.add_zero] at h3;refine q5S ?_ (Or.inr ?_)
   ·rw[show n*32+k=32*n+k from by omega,Nat.pow_add,h3];have:2^(32*n)*(l.getD n 0+1)≤2^(32*n)*2^k:=Nat.mul_le_mul_left _ h1;rw[Nat.mul_add] at this;omega
   ·rw[show n*32+k-1=32*n+(k-1) from by omega,Nat.pow_add,h3];have:2^(32*n)*2^(k-1)≤2^(32*n)*l.getD n 0:=Nat.mul_le_mul_left _ h2;omega
  have HV:Hid _:=hv;have hxi:((l.getD n 0:Nat):Int)≤4294967295:=by omega
  have HX0:Hid _:=hx0;generalize l.getD n 0=x at *;generalize blen (val l)=res at *;clear hv hx0;go_enter Tryz.func146,Tryz.ntmps146;go_wp2_with fail
  go_loopw [3,4] (fun vn vt wr=>∃ k t:Nat,k≤32∧vn= .int .i64 k∧vt= .int .u32 t∧t=x/2^k∧(k=0∨2^(k-1)≤x)∧G w wr) (fun _ vt _=>(intOf vt).toNat)
  case atStart=>exact⟨0,x,by omega,rfl,rfl,by simp,Or.inl rfl,G.refl _⟩
  case round=>
   obtain⟨k,t,hk,rfl,rfl,ht,hkx,hG⟩:=hrel;have HT:Hid _:=ht;have PO:Hid _:=hkx;clear ht hkx;by_cases h0:t=0
   ·subst h0;have h1:x<2^k:=by
     rcases Nat.lt_or_ge x (2^k) with h|h
     ·exact h
     ·have:=Nat.div_pos h (Nat.two_pow_pos k);have:=HT.out;omega
    have h2:2^(k-1)≤x:=by
     rcases PO.out with rfl|h
     ·exact absurd (by simpa using h1) HX0.out
     ·exact h
    have HR:Hid _:=HV.out k hk h1 h2;clear h1 h2;go_wp2_with fail;go_ret;exact⟨by rw[HR.out];exact q0x (by push_cast;omega),hG⟩
   ·have t1:((t:Int)==0)=false:=by simp;omega
    have h1:2^k≤x:=by
     rcases Nat.lt_or_ge x (2^k) with h|h
     ·have:=Nat.div_eq_of_lt h;have:=HT.out;omega
     ·exact h
    have h2:k<32:=by
     rcases Nat.lt_or_ge k 32 with h|h
     ·exact h
     ·have:2^32≤2^k:=Nat.pow_le_pow_right (by omega) h;omega
    have H1:Hid _:=h1;obtain⟨u,hu,ht2⟩:∃ u:Nat,u=t/2∧(t:Int)/2=u:=⟨t/2,rfl,by omega⟩;have CW:Hid _:=hu;have hut:u<t:=by omega
    clear hu;have hti:(t:Int)≤4294967295:=by have:=Nat.div_le_self x (2^k);have:=HT.out;omega
    clear h1;go_wp2_with fail
    go_roundw
    case rel=>exact⟨k+1,u,by omega,by go_num,by rfl,by rw[CW.out,HT.out,Nat.div_div_eq_div_mul,← Nat.pow_succ],Or.inr H1.out,hG⟩
    case measure=>simp only[intOf];omega
end Go.Proofs.YtbfjihniphldaaaGreatDoor
namespace Go.Proofs.YtbfjihniphldaaaGreatDoor
open BN
/-! The guess of a digit. -/
/-- No guess is too small: at first. -/
theorem qbp {S W h top P u2:Nat} (hS:S<(h*2^32+u2+1)*P) (hu:u2<2^32) (hW:top*2^32*P≤W) (ht:0<top):S<(h/top+1)*W:=by
 have h1:h<(h/top+1)*top:=by
  have h2:=Nat.div_add_mod h top;have h3:=Nat.mod_lt h ht;rw[Nat.add_mul,Nat.one_mul,Nat.mul_comm];omega
 have h4:(h*2^32+u2+1)*P≤(h/top+1)*top*2^32*P:=Nat.mul_le_mul_right _ (by
  have:(h+1)*2^32≤(h/top+1)*top*2^32:=Nat.mul_le_mul_right _ h1;omega)
 have h5:(h/top+1)*(top*2^32*P)≤(h/top+1)*W:=Nat.mul_le_mul_left _ hW;rw[← Nat.mul_assoc,← Nat.mul_assoc] at h5;omega
/-- A guess that is told too great is too great. -/
theorem q6V {S W g h r top next P u2:Nat} (hS:S<(h*2^32+u2+1)*P) (hW:(top*2^32+next)*P≤W) (hg:g*top+r=h) (ht:r*2^32+u2<g*next):S<g*W:=by
 have h1:h*2^32+u2+1≤g*(top*2^32+next):=by
  rw[← hg,Nat.mul_add,Nat.add_mul,← Nat.mul_assoc];omega
 have h2:(h*2^32+u2+1)*P≤g*(top*2^32+next)*P:=Nat.mul_le_mul_right _ h1;have h3:g*((top*2^32+next)*P)≤g*W:=Nat.mul_le_mul_left _ hW;rw[← Nat.mul_assoc] at h3;omega
theorem q5s {S W g:Nat} (hS:S<2^32*W) (hg:2^32≤g):S<g*W:=
 Nat.lt_of_lt_of_le hS (Nat.mul_le_mul_right _ hg)
/-- The last guess is at most by one too great. -/
theorem q79 {S W g h r top next P u2:Nat} (hS:(h*2^32+u2)*P≤S) (hW:W<(top*2^32+next+1)*P) (hW2:2^32*P≤W) (hg:g*top+r=h) (hg2:g<2^32) (ht:g*next≤r*2^32+u2):g*W<S+W:=by
 have h1:g*(top*2^32+next)≤h*2^32+u2:=by
  rw[← hg,Nat.mul_add,Nat.add_mul,← Nat.mul_assoc];omega
 have h2:g*(top*2^32+next)*P≤(h*2^32+u2)*P:=Nat.mul_le_mul_right _ h1;have h3:g*W≤g*((top*2^32+next+1)*P):=Nat.mul_le_mul_left _ (Nat.le_of_lt hW);have h4:g*((top*2^32+next+1)*P)=g*(top*2^32+next)*P+g*P:=by
  rw[← Nat.mul_assoc,Nat.mul_add g,Nat.mul_one,Nat.add_mul]
 have hP:0<P:=by
  rcases Nat.eq_zero_or_pos P with rfl|h
  ·simp at hW
  ·exact h
 have h5:(g+1)*P≤2^32*P:=Nat.mul_le_mul_right _ hg2;rw[Nat.add_mul,Nat.one_mul] at h5;omega
/-- Where the rest has grown past a word, all is well. -/
theorem q7J {g h r top u1 next u2:Nat} (hh:h≤top*2^32+u1) (hu1:u1<2^32) (hg:g*top+r=h) (hr:2^32≤r) (hn:next<2^32):g<2^32∧g*next≤r*2^32+u2:=by
 have h1:g*top<2^32*top:=by rw[Nat.mul_comm (2^32)];omega
 have h2:g<2^32:=Nat.lt_of_mul_lt_mul_right h1;refine⟨h2,?_⟩;have h3:g*next≤2^32*2^32:=Nat.mul_le_mul (by omega) (by omega)
 have h4:2^32*2^32≤r*2^32:=Nat.mul_le_mul_right _ hr;omega
/-! Taking away. -/
theorem q84 {us v:List Nat} {j i g c d x y r c' d' S0:Nat} (hi:j+i<us.length) (hx:us.getD (j+i) 0=x) (hy:v.getD i 0=y)
  (h:val us+2^(32*j)*(g*val (v.take i))=S0+2^(32*(j+i))*(c+d)) (hw:r+g*y+c+d=x+2^32*(c'+d')):
  val (us.set (j+i) r)+2^(32*j)*(g*val (v.take (i+1)))=S0+2^(32*(j+(i+1)))*(c'+d'):=by
 have h1:=q3k (r:=r) hi;rw[hx] at h1;rw[q07 v,hy,Nat.mul_add g,Nat.mul_add (2^(32*j)),show 2^(32*j)*(g*(2^(32*i)*y))=2^(32*(j+i))*(g*y) from by
  rw[Nat.mul_add,Nat.pow_add,Nat.mul_assoc,Nat.mul_left_comm g]]
 rw[show 32*(j+(i+1))=32*(j+i)+32 from by omega,Nat.pow_add,Nat.mul_assoc];have h3:2^(32*(j+i))*(r+g*y+c+d)=2^(32*(j+i))*(x+2^32*(c'+d')):=by rw[hw]
 generalize 2^(32*(j+i))=p at *;rw[Nat.mul_add p,Nat.mul_add p,Nat.mul_add p,Nat.mul_add p] at h3;rw[Nat.mul_add p] at h;omega
theorem q8N {us:List Nat} {j n g c d x r d' S0 V:Nat} (hi:j+n<us.length) (hx:us.getD (j+n) 0=x)
  (h:val us+2^(32*j)*(g*V)=S0+2^(32*(j+n))*(c+d)) (hw:r+c+d=x+2^32*d'):
  val (us.set (j+n) r)+g*(2^(32*j)*V)=S0+2^(32*(j+n+1))*d':=by
 have h1:=q3k (r:=r) hi;rw[hx] at h1;rw[show 32*(j+n+1)=32*(j+n)+32 from by omega,Nat.pow_add,Nat.mul_assoc,Nat.mul_left_comm g];have h3:2^(32*(j+n))*(r+c+d)=2^(32*(j+n))*(x+2^32*d'):=by rw[hw]
 generalize 2^(32*(j+n))=p at *;rw[Nat.mul_add p,Nat.mul_add p,Nat.mul_add p] at h3;rw[Nat.mul_add p] at h;omega
theorem q7Z {us v:List Nat} {j i c x y r c' S0:Nat} (hi:j+i<us.length) (hx:us.getD (j+i) 0=x) (hy:v.getD i 0=y)
  (h:val us+2^(32*(j+i))*c=S0+2^(32*j)*val (v.take i)) (hw:c+(x+y)=r+2^32*c'):
  val (us.set (j+i) r)+2^(32*(j+(i+1)))*c'=S0+2^(32*j)*val (v.take (i+1)):=by
 have h1:=q3k (r:=r) hi;rw[hx] at h1;rw[q07 v,hy,Nat.mul_add (2^(32*j)),show 2^(32*j)*(2^(32*i)*y)=2^(32*(j+i))*y from by
  rw[Nat.mul_add,Nat.pow_add,Nat.mul_assoc]]
 rw[show 32*(j+(i+1))=32*(j+i)+32 from by omega,Nat.pow_add,Nat.mul_assoc];have h3:2^(32*(j+i))*(c+(x+y))=2^(32*(j+i))*(r+2^32*c'):=by rw[hw]
 generalize 2^(32*(j+i))=p at *;rw[Nat.mul_add p,Nat.mul_add p,Nat.mul_add p] at h3;omega
theorem q8D {us:List Nat} {j n c x r k S0 V:Nat} (hi:j+n<us.length) (hx:us.getD (j+n) 0=x)
  (h:val us+2^(32*(j+n))*c=S0+2^(32*j)*V) (hw:x+c=r+2^32*k):
  val (us.set (j+n) r)+2^(32*(j+n+1))*k=S0+2^(32*j)*V:=by
 have h1:=q3k (r:=r) hi;rw[hx] at h1;rw[show 32*(j+n+1)=32*(j+n)+32 from by omega,Nat.pow_add,Nat.mul_assoc];have h3:2^(32*(j+n))*(x+c)=2^(32*(j+n))*(r+2^32*k):=by rw[hw]
 generalize 2^(32*(j+n))=p at *;rw[Nat.mul_add p,Nat.mul_add p] at h3;omega
/-- A row whose upper words are nought is below the power. -/
theorem q4f {l:List Nat} {k:Nat} (h:okw l) (hd:val (l.drop k)=0):val l<2^(32*k):=by
 rw[q1m h] at hd;exact(Nat.div_eq_zero_iff.1 hd).resolve_left (by have:=Nat.two_pow_pos (32*k);omega)
theorem q1r {l:List Nat} {p k r:Nat} (h:p<k):(l.set p r).drop k=l.drop k:=List.drop_set_of_lt h
/-- A digit that was right. -/
theorem q5R {S g W R d' T:Nat} (hS:S<(g+1)*W) (h:R+g*W=S+T*d') (hd:d'=0):R+g*W=S∧R<W:=by
 subst hd;rw[Nat.mul_zero] at h;rw[Nat.add_mul,Nat.one_mul] at hS;omega
/-- A digit that was by one too great: what comes of it behind the giving back. -/
theorem q6I {S g W R R' T k:Nat} (hS:S<(g+1)*W) (hg:g*W<S+W) (h:R+g*W=S+T) (hR:R<T) (hb:R'+T*k=R+W) (hR':R'<T) (Nb:W≤T):
  R'+(g-1)*W=S∧R'<W∧0<g:=by
 have hg0:0<g:=by
  rcases Nat.eq_zero_or_pos g with rfl|h0
  ·rw[Nat.zero_mul] at h;omega
  ·exact h0
 have h1:(g-1)*W+W=g*W:=by
  obtain⟨t,rfl⟩:∃ t,g=t+1:=⟨g-1,by omega⟩;rw[Nat.add_sub_cancel,Nat.add_mul,Nat.one_mul]
 have hk:k=1:=by
  rcases k with _|_|k
  ·rw[Nat.mul_zero] at hb;omega
  ·rfl
  ·exfalso;have:T*2≤T*(k+1+1):=Nat.mul_le_mul_left _ (by omega);omega
 subst hk;rw[Nat.mul_one] at hb;rw[Nat.add_mul,Nat.one_mul] at hS;omega
/-- One digit of the quotient more. -/
theorem q4P {us eF qs:List Nat} {j q V A:Nat} (hj:j<qs.length) (h:val us+val (qs.drop (j+1))*(2^(32*(j+1))*V)=A) (he:val eF+q*(2^(32*j)*V)=val us):
  val eF+val ((qs.set j q).drop j)*(2^(32*j)*V)=A:=by
 rw[q0h (l:=qs.set j q) (by simpa using hj),q0g hj,List.drop_set_of_lt (by omega)];show val eF+(q+2^32*val (qs.drop (j+1)))*(2^(32*j)*V)=A;rw[Nat.add_mul,← h,← he,show 32*(j+1)=32+32*j from by omega,Nat.pow_add];generalize val (qs.drop (j+1))=z;generalize 2^(32*j)=p;have e:2^32*z*(p*V)=z*(2^32*p*V):=by
  rw[Nat.mul_assoc (2^32) p,Nat.mul_comm (2^32) z,Nat.mul_assoc]
 rw[e];omega
end Go.Proofs.YtbfjihniphldaaaGreatDoor
