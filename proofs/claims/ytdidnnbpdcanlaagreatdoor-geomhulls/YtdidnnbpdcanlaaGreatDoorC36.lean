/- What is proved here: the builtin clear of the end of a slice of points of our own, over this seat's translation (no program).
What is proved here: slices.Compact of any points of our own, over this seat's translation.
What is proved here: slices.Compact of any points of our own: the walk, over this seat's translation. -/
import Derived.Test.YtdidnnbpdcanlaaGreatDoorC35
import Derived.Laws.CopyRow
import Derived.Test.YtdidnnbpdcanlaaGreatDoorC34
namespace Go.Proofs.YtdidnnbpdcanlaaGreatDoor.EN
open Go.ChangeShapes Go.WideShapes Go.ChangeAt Go.RowKit
set_option maxRecDepth 100000 in
theorem q3W (w:World) (ty:TypeId) (base g k m n cap c:Nat) (l:List (Nat×Nat)) (h:POwn w base (.slice (some ⟨g,0,none⟩) n cap) l) (hk:k+m=l.length):
  ∃ w',(Builtin.clear_ #[22] ty #[.slice (some ⟨g,k*2,none⟩) m c]).run Tryz.prog w= .ok (.tuple #[]) w'∧POwn w' base (.slice (some ⟨g,0,none⟩) k cap) (l.take k)∧(w'=w∨∃ row,w'=w.setRow g row):=by
 obtain⟨i,hi,hz,-,-⟩:=q7x
 cases m with
 |zero=>
  refine⟨w,?_,h.cut (by omega),Or.inl rfl⟩
  simp [Builtin.clear_,run_underlying Tryz.underlying22]
 |succ m=>
  rcases h with ⟨e,-⟩|⟨b',cap',cur,e,h1,h2,h3,h4,h5,h6,h7⟩
  ·cases e
  injection e with e1 e2 e3
  injection e1 with e1
  injection e1 with e1
  subst e1;subst e3
  have hone:∀ v∈(Builtin.zeroCells (Value.agg #[.float .f64 0,.float .f64 0]).cells (m+1)).toList,v.oneCell'=true∧∃ b,v= .float .f64 b:=by
   intro v hv
   have hz1:(Value.agg #[.float .f64 0,.float .f64 0]).cells=#[Value.float .f64 0,.float .f64 0]:=rfl
   rw[hz1] at hv
   simp only[Builtin.zeroCells,Array.toList_map,List.mem_map] at hv
   obtain⟨j,-,rfl⟩:=hv
   have hj:j%(#[.float .f64 0,.float .f64 0]:Array Value).size<2:=Nat.mod_lt _ (by decide)
   generalize j%(#[.float .f64 0,.float .f64 0]:Array Value).size=k' at hj
   rcases k' with _|_|k'
   ·exact⟨rfl,0,rfl⟩
   ·exact⟨rfl,0,rfl⟩
   ·omega
  have hlen:(Builtin.zeroCells (Value.agg #[.float .f64 0,.float .f64 0]).cells (m+1)).toList.length=(m+1)*2:=by
   rw[Array.length_toList,size_zeroCells]
   rfl
  have hst:=run_storeCells_at (P:=Tryz.prog) g (k*2) 32 (Builtin.zeroCells (Value.agg #[.float .f64 0,.float .f64 0]).cells (m+1)).toList 0 cur w h2 (by rw[hlen];omega) (fun v hv=>(hone v hv).1)
  have hzv:(zeroValue 32).run Tryz.prog w= .ok (.agg #[.float .f64 0,.float .f64 0]) w:=by
   simp [zeroValue,typeInfo,hi,hz]
  rw[Nat.add_zero,hlen] at hst
  refine⟨w.setRow g (cur.toList.take (k*2)++(Builtin.zeroCells (Value.agg #[.float .f64 0,.float .f64 0]).cells (m+1)).toList++cur.toList.drop (k*2+(m+1)*2)).toArray,?_,?_,Or.inr ⟨_,rfl⟩⟩
  rotate_left
  ·refine Or.inr ⟨g,cap,(cur.toList.take (k*2)++(Builtin.zeroCells (Value.agg #[.float .f64 0,.float .f64 0]).cells (m+1)).toList++cur.toList.drop (k*2+(m+1)*2)).toArray,?_,h1,?_,?_,h4,?_,?_,?_⟩
   ·have e:(l.take k).length=k:=by rw[List.length_take];omega
    rw[e]
   ·simp only[World.setRow,Array.getElem?_modify,if_true,h2,Option.map_some]
   ·rw[List.length_take];omega
   ·simp only[List.size_toArray,List.length_append,List.length_take,List.length_drop,hlen,Array.length_toList,h5]
    omega
   ·have hkl:(l.take k).length=k:=by rw[List.length_take];omega
    rw[hkl]
    simp only[List.append_assoc]
    rw[List.take_append_of_le_length (by rw[List.length_take,Array.length_toList,h5];omega),List.take_take,Nat.min_self,q7K,← h6,List.take_take,Nat.min_eq_left (by omega)]
   ·intro x hx
    simp only[List.mem_append] at hx
    rcases hx with (hx|hx)|hx
    ·exact h7 x (List.mem_of_mem_take hx)
    ·exact(hone x hx).2
    ·exact h7 x (List.mem_of_mem_drop hx)
  ·simp [Builtin.clear_,run_underlying Tryz.underlying22,hzv,hst]
attribute [local go_sem] q0d
/-- Are they the same? -/
def q1h (p q:Nat×Nat):Bool:=(FloatKind.f64.format.order p.1 q.1==some .eq)&&(FloatKind.f64.format.order p.2 q.2==some .eq)
/-- Of the first points those that are not the same as the one ahead of them. -/
def q0u (l:List (Nat×Nat)):Nat→List (Nat×Nat)
 |0=>[]
 |k+1=>if k≠0∧q1h (l.getD k (0,0)) (l.getD (k-1) (0,0))=true then q0u l k else q0u l k++[l.getD k (0,0)]
theorem q4K {l:List (Nat×Nat)} {k:Nat} (h:q1h (l.getD (k+1) (0,0)) (l.getD k (0,0))=true):q0u l (k+2)=q0u l (k+1):=by
 show (if _ then _ else _)=_
 rw[if_pos ⟨by omega,h⟩]
theorem q2i {l:List (Nat×Nat)} {k:Nat} (h:q1h (l.getD (k+1) (0,0)) (l.getD k (0,0))=false):q0u l (k+2)=q0u l (k+1)++[l.getD (k+1) (0,0)]:=by
 show (if _ then _ else _)=_
 rw[if_neg (fun h2=>by rw[Nat.add_sub_cancel,h] at h2;exact absurd h2.2 (by simp))]
theorem q0W {l:List (Nat×Nat)} {k:Nat} (h:k<l.length):l.take (k+1)=l.take k++[l.getD k (0,0)]:=by
 rw[List.take_add_one,List.getElem?_eq_getElem h,List.getD_eq_getElem?_getD,List.getElem?_eq_getElem h]
 rfl
theorem OntoP.set {base g:Nat} {v:Value} {w wr:World} (h:OntoP base v w wr) (hv:v.ownBlock=some g) (hb:base≤g) (i:Nat) (x:Value):OntoP base v w (wr.setCell ⟨g,i,none⟩ x):=by
 refine⟨fun k hk hne=> ?_,?_,h.e,fun w0 h0 hg=>(h.g w0 h0 hg).setCell (p:=⟨g,i,none⟩) (by show _≤g;omega) x⟩
 ·rw[← h.h k hk hne]
  have GI:g≠k:=fun e=>hne (by rw[hv,e])
  simp only[World.setCell,Array.getElem?_modify,if_neg GI]
 ·simpa [World.setCell] using h.s
theorem OntoP.row {base g:Nat} {v:Value} {w wr:World} (h:OntoP base v w wr) (hv:v.ownBlock=some g) (hb:base≤g) (row:Array Value):OntoP base v w (wr.setRow g row):=by
 refine⟨fun k hk hne=> ?_,?_,h.e,fun w0 h0 hg=> ?_⟩
 ·rw[← h.h k hk hne]
  have GI:g≠k:=fun e=>hne (by rw[hv,e])
  simp only[World.setRow,Array.getElem?_modify,if_neg GI]
 ·simpa [World.setRow] using h.s
 ·obtain⟨g1,g2,g3,g4,g5⟩:=h.g w0 h0 hg
  refine⟨g1,g2,g3,by simpa [World.setRow] using g4,fun b hb2=> ?_⟩
  rw[← g5 b hb2]
  simp only[World.setRow,Array.getElem?_modify,if_neg (show g≠b by omega)]
theorem OntoP.after {base:Nat} {v:Value} {w w1 w2:World} (h:OntoP base v w w1) (g:G w1 w2):OntoP base v w w2:=by
 refine⟨fun k hk hne=> ?_,Nat.le_trans h.s g.size,?_,fun w0 h0 hg=>G.trans (h.g w0 h0 hg) g⟩
 ·obtain⟨-,-,-,-,g5⟩:=g
  rw[g5 k (Nat.lt_of_lt_of_le hk h.s)]
  exact h.h k hk hne
 ·obtain⟨g1,g2,g3,-,-⟩:=g
  exact⟨g1.trans h.e.1,g2.trans h.e.2.1,g3.trans h.e.2.2⟩
end Go.Proofs.YtdidnnbpdcanlaaGreatDoor.EN
namespace Go.Proofs.YtdidnnbpdcanlaaGreatDoor.EN
open Go.ChangeShapes Go.WideShapes Go.ChangeAt Go.RowKit
attribute [local go_sem] q0d
def q5o (w:World) (base:Nat) (v:Value) (l:List (Nat×Nat)) (e:Ending) (w':World):Prop:=∃ v',e= .returned v'∧POwn w' base v' (q0u l l.length)∧OntoP base v w w'∧v'.ownBlock=v.ownBlock
theorem q2G {l m:List (Nat×Nat)} {d i:Nat} (h:m.drop d=l.drop d) (hi:d≤i):m.getD i (0,0)=l.getD i (0,0):=by
 have h1:=congrArg (fun x=>x[i-d]?) h
 simp only[List.getElem?_drop,show d+(i-d)=i from by omega] at h1
 rw[List.getD_eq_getElem?_getD,List.getD_eq_getElem?_getD,h1]
theorem POwn.at {w:World} {base g n ca:Nat} {l:List (Nat×Nat)} (h:POwn w base (.slice (some ⟨g,0,none⟩) n ca) l) {i:Nat} (hi:i<l.length):
  (w.cell? ⟨g,i*2,none⟩=some (.float .f64 (l.getD i (0,0)).1)∧w.cell? ⟨g,i*2+1,none⟩=some (.float .f64 (l.getD i (0,0)).2))∧w.frozen? ⟨g,i*2,none⟩=false∧w.frozen? ⟨g,i*2+1,none⟩=false∧g<w.heap.size∧n=l.length:=by
 rcases h with ⟨e,-⟩|⟨b',cap',cur,e,h1,h2,h3,h4,h5,h6,h7⟩
 ·cases e
 ·injection e with e1 e2 e3
  injection e1 with e1
  injection e1 with e1
  subst e1
  exact⟨POwn.cellAt h2 h6 hi,by simp [World.frozen?,h2],by simp [World.frozen?,h2],q1l h2,e2⟩
theorem POwn.n_eq {w:World} {base g n ca:Nat} {l:List (Nat×Nat)} (h:POwn w base (.slice (some ⟨g,0,none⟩) n ca) l):n=l.length:=by
 rcases h with ⟨e,-⟩|⟨b',cap',cur,e,h1,h2⟩
 ·cases e
 ·injection e with e1 e2 e3
theorem q62 {m:List (Nat×Nat)} {K:Nat} {p:Nat×Nat} (h:K<m.length):(m.set K p).take (K+1)=m.take K++[p]:=by
 rw[List.take_add_one,List.take_set_of_le (Nat.le_refl _),List.getElem?_set_self h]
 rfl
set_option maxRecDepth 20000 in
set_option maxHeartbeats 2000000 in
theorem q3j (w:World) (base:Nat) (v:Value) (l:List (Nat×Nat)) (h:POwn w base v l) (hn:l.length≤1000000):
  Calls Tryz.prog 39 #[v] w (q5o w base v l):=by
 by_cases h2:l.length<2
 ·have hk:q0u l l.length=l:=by
   match l,h2 with
   |[],_=>rfl
   |[p],_=>rfl
  obtain⟨pa,ca,rfl⟩:=h.len
  have HW:Hid (POwn w base (.slice pa l.length ca) (q0u l l.length)):=by rw[hk];exact h
  obtain⟨n,hn'⟩:∃ n,n=l.length:=⟨_,rfl⟩
  unfold q5o
  rw[← hn'] at h2 HW ⊢
  have Bd:decide ((n:Int)<2)=true:=decide_eq_true (by omega)
  clear h hk hn hn'
  go_enter Tryz.func39,Tryz.ntmps39
  go_wp2_with fail
  go_ret
  exact⟨_,rfl,HW.out,q1o (G.refl _),rfl⟩
 ·obtain⟨g,ca,rfl,dB⟩:∃ g cap,v= .slice (some ⟨g,0,none⟩) l.length cap∧l.length≤cap:=by
   rcases h with ⟨-,e⟩|⟨g,cap,cur,rfl,h1,h2,h3,-⟩
   ·rw[e] at h2;simp at h2
   ·exact⟨g,cap,rfl,h3⟩
  have HW:Hid (POwn w base (.slice (some ⟨g,0,none⟩) l.length ca) l):=h
  have hbg:base≤g∧g<w.heap.size:=by
   rcases h with ⟨e,-⟩|⟨b',cap',cur,e,h1,h2,-⟩
   ·cases e
   ·injection e with e1 e2 e3
    injection e1 with e1
    injection e1 with e1
    subst e1
    exact⟨h1,q1l h2⟩
  obtain⟨n,hn'⟩:∃ n,n=l.length:=⟨_,rfl⟩
  unfold q5o
  rw[← hn'] at h2 HW dB hn ⊢
  have HN:Hid (n=l.length):=hn'
  have Bd:decide ((n:Int)<2)=false:=decide_eq_false (by omega)
  clear h hn'
  go_enter Tryz.func39,Tryz.ntmps39
  go_wp2_with fail
  go_loopw [3] (fun vk wr=>∃ k:Nat,k<n∧vk= .int .i64 (k+1)∧q0u l (k+1)=l.take (k+1)∧G w wr) (fun vk _=>n+1-(intOf vk).toNat)
  case atStart=>exact⟨0,by omega,rfl,by
   show (if _ then _ else _)=_
   rw[if_neg (fun h=>h.1 rfl),q0W (by have:=HN.out;omega)];rfl,G.refl _⟩
  case round=>
   obtain⟨k,hk,rfl,hkp,hG⟩:=hrel
   have BO:Hid (q0u l (k+1)=l.take (k+1)):=hkp
   clear hkp
   by_cases hkn:k+1<n
   ·have hkz:decide ((k:Int)+1<(n:Int))=true:=decide_eq_true (by omega)
    have HO:Hid (POwn wr base (.slice (some ⟨g,0,none⟩) n ca) l):=HW.out.G hG
    obtain⟨cur,xH,hc6⟩:∃ cur,wr.heap[g]? =some (.cells cur 32 (0,0))∧cur.toList.take (l.length*2)=pl l:=by
     rcases HO.out with ⟨e,-⟩|⟨b',cap',cur,e,h1,h2,h3,h4,h5,h6,h7⟩
     ·cases e
     ·injection e with e1 e2 e3
      injection e1 with e1
      injection e1 with e1
      subst e1
      exact⟨cur,h2,h6⟩
    obtain⟨hx1,hy1⟩:=POwn.cellAt xH hc6 (i:=k+1) (by rw[← HN.out];exact hkn)
    obtain⟨hx2,hy2⟩:=POwn.cellAt xH hc6 (i:=k) (by rw[← HN.out];omega)
    clear xH hc6
    have HS:Hid (∀ t,q1h (l.getD (k+1) (0,0)) (l.getD k (0,0))=t→q1h (l.getD (k+1) (0,0)) (l.getD k (0,0))=t):=fun t h=>h
    generalize hp:l.getD (k+1) (0,0)=p at hx1 hy1
    generalize hq:l.getD k (0,0)=q at hx2 hy2
    obtain⟨px,py⟩:=p
    obtain⟨qx,qy⟩:=q
    dsimp only at hx1 hy1 hx2 hy2
    have hs:=hG.size
    have hb1:g<wr.heap.size:=by omega
    have hsm:q1h (l.getD (k+1) (0,0)) (l.getD k (0,0))=((FloatKind.f64.format.order px qx==some .eq)&&(FloatKind.f64.format.order py qy==some .eq)):=by rw[hp,hq];rfl
    have gG:Hid _:=hsm
    have HP:Hid (l.getD (k+1) (0,0)=(px,py)):=hp
    clear hsm hp hq HS
    go_wp2_with fail
    have he1:=fun w=>q0O px qx w
    have he2:=fun w=>q0O py qy w
    generalize (FloatKind.f64.format.order px qx==some .eq)=t1 at gG he1
    generalize (FloatKind.f64.format.order py qy==some .eq)=t2 at gG he2
    cases t1
    ·clear he2
     refine q07 (by kernel_rfl) (by kernel_rfl) ?_
     intro W hW
     have hq1:=q04 (w:=W) (a:=⟨g,k*2,none⟩) (x:= .float .f64 qx) (by rw[hW];first|(simp;done)|(simp;omega)|omega) (by rw[hW];first|assumption|(simp [go_sem];done)|(simp [*,go_sem];done))
     have hq2:=q04 (w:=W) (a:=⟨g,k*2+1,none⟩) (x:= .float .f64 qy) (by rw[hW];first|(simp;done)|(simp;omega)|omega) (by rw[hW];first|assumption|(simp [go_sem];done)|(simp [*,go_sem];done))
     have hq3:=q04 (w:=W) (a:=⟨g,(k+1)*2,none⟩) (x:= .float .f64 px) (by rw[hW];first|(simp;done)|(simp;omega)|omega) (by rw[hW];first|assumption|(simp [go_sem];done)|(simp [*,go_sem];done))
     have hq4:=q04 (w:=W) (a:=⟨g,(k+1)*2+1,none⟩) (x:= .float .f64 py) (by rw[hW];first|(simp;done)|(simp;omega)|omega) (by rw[hW];first|assumption|(simp [go_sem];done)|(simp [*,go_sem];done))
     clear hW
     repeat (go_big_quiet_step (fail))
     refine wpQuiet_nil ?_
     clear hq1 hq2 hq3 hq4
     intro w5 gF
     go_wp2_with fail
     refine⟨⟨k+1,hkn,by go_num,?_,G.trans hG gF⟩,?_⟩
     ·rw[q2i (by rw[gG.out];rfl),BO.out,q0W (k:=k+1) (by rw[← HN.out];exact hkn)]
     ·show n+1-((k:Int)+1+1).toNat<n+1-((k:Int)+1).toNat
      omega
    ·cases t2
     ·skip
      refine q07 (by kernel_rfl) (by kernel_rfl) ?_
      intro W hW
      have kC:=q04 (w:=W) (a:=⟨g,k*2,none⟩) (x:= .float .f64 qx) (by rw[hW];first|(simp;done)|(simp;omega)|omega) (by rw[hW];first|assumption|(simp [go_sem];done)|(simp [*,go_sem];done))
      have kG:=q04 (w:=W) (a:=⟨g,k*2+1,none⟩) (x:= .float .f64 qy) (by rw[hW];first|(simp;done)|(simp;omega)|omega) (by rw[hW];first|assumption|(simp [go_sem];done)|(simp [*,go_sem];done))
      have kS:=q04 (w:=W) (a:=⟨g,(k+1)*2,none⟩) (x:= .float .f64 px) (by rw[hW];first|(simp;done)|(simp;omega)|omega) (by rw[hW];first|assumption|(simp [go_sem];done)|(simp [*,go_sem];done))
      have hq8:=q04 (w:=W) (a:=⟨g,(k+1)*2+1,none⟩) (x:= .float .f64 py) (by rw[hW];first|(simp;done)|(simp;omega)|omega) (by rw[hW];first|assumption|(simp [go_sem];done)|(simp [*,go_sem];done))
      clear hW
      repeat (go_big_quiet_step (fail))
      refine wpQuiet_nil ?_
      clear kC kG kS hq8
      intro w5 gF
      go_wp2_with fail
      refine⟨⟨k+1,hkn,by go_num,?_,G.trans hG gF⟩,?_⟩
      ·rw[q2i (by rw[gG.out];rfl),BO.out,q0W (k:=k+1) (by rw[← HN.out];exact hkn)]
      ·show n+1-((k:Int)+1+1).toNat<n+1-((k:Int)+1).toNat
       omega
     ·skip
      refine q07 (by kernel_rfl) (by kernel_rfl) ?_
      intro W hW
      have qp:=q04 (w:=W) (a:=⟨g,k*2,none⟩) (x:= .float .f64 qx) (by rw[hW];first|(simp;done)|(simp;omega)|omega) (by rw[hW];first|assumption|(simp [go_sem];done)|(simp [*,go_sem];done))
      have jf:=q04 (w:=W) (a:=⟨g,k*2+1,none⟩) (x:= .float .f64 qy) (by rw[hW];first|(simp;done)|(simp;omega)|omega) (by rw[hW];first|assumption|(simp [go_sem];done)|(simp [*,go_sem];done))
      have hq11:=q04 (w:=W) (a:=⟨g,(k+1)*2,none⟩) (x:= .float .f64 px) (by rw[hW];first|(simp;done)|(simp;omega)|omega) (by rw[hW];first|assumption|(simp [go_sem];done)|(simp [*,go_sem];done))
      have hq12:=q04 (w:=W) (a:=⟨g,(k+1)*2+1,none⟩) (x:= .float .f64 py) (by rw[hW];first|(simp;done)|(simp;omega)|omega) (by rw[hW];first|assumption|(simp [go_sem];done)|(simp [*,go_sem];done))
      clear hW
      repeat (go_big_quiet_step (fail))
      refine wpQuiet_nil ?_
      clear qp jf hq11 hq12
      intro w5 gF
      go_wp2_with fail
      have M6:Hid (G w w5):=G.trans hG gF
      have PE:Hid (l.take (k+1)=q0u l (k+1+0+1)):=by
       show _=q0u l (k+2)
       rw[q4K (by rw[gG.out];rfl)]
       exact BO.out.symm
      clear he1 he2 gG HP BO HO hx1 hy1 hx2 hy2 hs hb1 gF hkz hG hk
      go_loopw [3,5] (fun vk vj wr=>∃ (K i:Nat) (m:List (Nat×Nat)),vk= .int .i64 K∧vj= .int .i64 (i+1)∧k+1+i<n∧K≤k+1+i∧m.take K=q0u l (k+1+i+1)∧m.drop (k+1+i)=l.drop (k+1+i)∧POwn wr base (.slice (some ⟨g,0,none⟩) n ca) m∧OntoP base (.slice (some ⟨g,0,none⟩) n ca) w wr) (fun _ vj _=>n-(intOf vj).toNat)
      case atStart=>exact⟨k+1,0,l,rfl,rfl,by omega,by omega,PE.out,rfl,HW.out.G M6.out,q1o M6.out⟩
      case round=>
       obtain⟨K,i,m,rfl,rfl,hin,Tx,htk,hdr,ho,hon⟩:=hrel
       have um:Hid (m.take K=q0u l (k+1+i+1)):=htk
       have HDR:Hid (m.drop (k+1+i)=l.drop (k+1+i)):=hdr
       have HO:Hid (POwn wr base (.slice (some ⟨g,0,none⟩) n ca) m):=ho
       have wy:Hid (OntoP base (.slice (some ⟨g,0,none⟩) n ca) w wr):=hon
       clear htk hdr ho hon
       have mM:=HO.out.n_eq
       by_cases hj:k+1+i+1<n
       ·have hjz:decide ((i:Int)+1<((n-(k+1):Nat):Int))=true:=decide_eq_true (by omega)
        obtain⟨⟨hx1,hy1⟩,-,-,hgl,-⟩:=HO.out.at (i:=k+1+i+1) (by omega)
        obtain⟨⟨hx2,hy2⟩,-⟩:=HO.out.at (i:=k+1+i) (by omega)
        rw[q2G HDR.out (by omega),show (k+1+i+1)*2=(k+1)*2+(i+1)*2 from by omega] at hx1 hy1
        rw[q2G HDR.out (by omega),show (k+1+i)*2=(k+1)*2+i*2 from by omega] at hx2 hy2
        generalize hp:l.getD (k+1+i+1) (0,0)=p at hx1 hy1
        generalize hq:l.getD (k+1+i) (0,0)=q at hx2 hy2
        obtain⟨px,py⟩:=p
        obtain⟨qx,qy⟩:=q
        dsimp only at hx1 hy1 hx2 hy2
        have gG:Hid (q1h (l.getD (k+1+i+1) (0,0)) (l.getD (k+1+i) (0,0))=((FloatKind.f64.format.order px qx==some .eq)&&(FloatKind.f64.format.order py qy==some .eq))):=by show _=_;rw[hp,hq];rfl
        have HP:Hid (l.getD (k+1+i+1) (0,0)=(px,py)):=hp
        clear hp hq
        go_wp2_with fail
        have he1:=fun w=>q0O px qx w
        have he2:=fun w=>q0O py qy w
        generalize (FloatKind.f64.format.order px qx==some .eq)=t1 at gG he1
        generalize (FloatKind.f64.format.order py qy==some .eq)=t2 at gG he2
        cases t1
        ·clear he2
         refine q07 (by kernel_rfl) (by kernel_rfl) ?_
         intro W hW
         have nV:=q04 (w:=W) (a:=⟨g,(k+1)*2+i*2,none⟩) (x:= .float .f64 qx) (by rw[hW];first|(simp;done)|(simp;omega)|omega) (by rw[hW];first|assumption|(simp [go_sem];done)|(simp [*,go_sem];done))
         have nW:=q04 (w:=W) (a:=⟨g,(k+1)*2+i*2+1,none⟩) (x:= .float .f64 qy) (by rw[hW];first|(simp;done)|(simp;omega)|omega) (by rw[hW];first|assumption|(simp [go_sem];done)|(simp [*,go_sem];done))
         have nX:=q04 (w:=W) (a:=⟨g,(k+1)*2+(i+1)*2,none⟩) (x:= .float .f64 px) (by rw[hW];first|(simp;done)|(simp;omega)|omega) (by rw[hW];first|assumption|(simp [go_sem];done)|(simp [*,go_sem];done))
         have qH:=q04 (w:=W) (a:=⟨g,(k+1)*2+(i+1)*2+1,none⟩) (x:= .float .f64 py) (by rw[hW];first|(simp;done)|(simp;omega)|omega) (by rw[hW];first|assumption|(simp [go_sem];done)|(simp [*,go_sem];done))
         clear hW
         repeat (go_big_quiet_step (fail))
         refine wpQuiet_nil ?_
         clear nV nW nX qH
         intro w6 jv
         have pJ:Hid (POwn w6 base (.slice (some ⟨g,0,none⟩) n ca) m):=HO.out.G jv
         obtain⟨⟨ha1,ha2⟩,hf1,hf2,GG,-⟩:=pJ.out.at (i:=K) (by omega)
         replace hx1:=G.cell (p:=⟨g,(k+1)*2+(i+1)*2,none⟩) jv hgl hx1
         replace hy1:=G.cell (p:=⟨g,(k+1)*2+(i+1)*2+1,none⟩) jv hgl hy1
         clear hx2 hy2 he1
         generalize (m.getD K (0,0)).1=ox at ha1
         generalize (m.getD K (0,0)).2=oy at ha2
         go_wp2_with fail
         refine⟨⟨K+1,i+1,m.set K (px,py),by go_num,by go_num,by omega,by omega,?_,?_,pJ.out.set,((wy.out.after jv).set rfl hbg.1 _ _).set rfl hbg.1 _ _⟩,?_⟩
         ·rw[q62 (by omega),um.out,show k+1+(i+1)+1=(k+1+i)+2 from by omega,q2i (by rw[gG.out];rfl),HP.out]
         ·have h1:=congrArg (List.drop 1) HDR.out
          rw[List.drop_drop,List.drop_drop] at h1
          rw[List.drop_set_of_lt (by omega)]
          exact h1
         ·show n-((i:Int)+1+1).toNat<n-((i:Int)+1).toNat
          omega
        ·cases t2
         ·skip
          refine q07 (by kernel_rfl) (by kernel_rfl) ?_
          intro W hW
          have pK:=q04 (w:=W) (a:=⟨g,(k+1)*2+i*2,none⟩) (x:= .float .f64 qx) (by rw[hW];first|(simp;done)|(simp;omega)|omega) (by rw[hW];first|assumption|(simp [go_sem];done)|(simp [*,go_sem];done))
          have pM:=q04 (w:=W) (a:=⟨g,(k+1)*2+i*2+1,none⟩) (x:= .float .f64 qy) (by rw[hW];first|(simp;done)|(simp;omega)|omega) (by rw[hW];first|assumption|(simp [go_sem];done)|(simp [*,go_sem];done))
          have pO:=q04 (w:=W) (a:=⟨g,(k+1)*2+(i+1)*2,none⟩) (x:= .float .f64 px) (by rw[hW];first|(simp;done)|(simp;omega)|omega) (by rw[hW];first|assumption|(simp [go_sem];done)|(simp [*,go_sem];done))
          have pQ:=q04 (w:=W) (a:=⟨g,(k+1)*2+(i+1)*2+1,none⟩) (x:= .float .f64 py) (by rw[hW];first|(simp;done)|(simp;omega)|omega) (by rw[hW];first|assumption|(simp [go_sem];done)|(simp [*,go_sem];done))
          clear hW
          repeat (go_big_quiet_step (fail))
          refine wpQuiet_nil ?_
          clear pK pM pO pQ
          intro w6 jv
          have pJ:Hid (POwn w6 base (.slice (some ⟨g,0,none⟩) n ca) m):=HO.out.G jv
          obtain⟨⟨ha1,ha2⟩,hf1,hf2,GG,-⟩:=pJ.out.at (i:=K) (by omega)
          replace hx1:=G.cell (p:=⟨g,(k+1)*2+(i+1)*2,none⟩) jv hgl hx1
          replace hy1:=G.cell (p:=⟨g,(k+1)*2+(i+1)*2+1,none⟩) jv hgl hy1
          clear hx2 hy2 he1
          generalize (m.getD K (0,0)).1=ox at ha1
          generalize (m.getD K (0,0)).2=oy at ha2
          go_wp2_with fail
          refine⟨⟨K+1,i+1,m.set K (px,py),by go_num,by go_num,by omega,by omega,?_,?_,pJ.out.set,((wy.out.after jv).set rfl hbg.1 _ _).set rfl hbg.1 _ _⟩,?_⟩
          ·rw[q62 (by omega),um.out,show k+1+(i+1)+1=(k+1+i)+2 from by omega,q2i (by rw[gG.out];rfl),HP.out]
          ·have h1:=congrArg (List.drop 1) HDR.out
           rw[List.drop_drop,List.drop_drop] at h1
           rw[List.drop_set_of_lt (by omega)]
           exact h1
          ·show n-((i:Int)+1+1).toNat<n-((i:Int)+1).toNat
           omega
         ·skip
          refine q07 (by kernel_rfl) (by kernel_rfl) ?_
          intro W hW
          have xI:=q04 (w:=W) (a:=⟨g,(k+1)*2+i*2,none⟩) (x:= .float .f64 qx) (by rw[hW];first|(simp;done)|(simp;omega)|omega) (by rw[hW];first|assumption|(simp [go_sem];done)|(simp [*,go_sem];done))
          have xJ:=q04 (w:=W) (a:=⟨g,(k+1)*2+i*2+1,none⟩) (x:= .float .f64 qy) (by rw[hW];first|(simp;done)|(simp;omega)|omega) (by rw[hW];first|assumption|(simp [go_sem];done)|(simp [*,go_sem];done))
          have xK:=q04 (w:=W) (a:=⟨g,(k+1)*2+(i+1)*2,none⟩) (x:= .float .f64 px) (by rw[hW];first|(simp;done)|(simp;omega)|omega) (by rw[hW];first|assumption|(simp [go_sem];done)|(simp [*,go_sem];done))
          have xL:=q04 (w:=W) (a:=⟨g,(k+1)*2+(i+1)*2+1,none⟩) (x:= .float .f64 py) (by rw[hW];first|(simp;done)|(simp;omega)|omega) (by rw[hW];first|assumption|(simp [go_sem];done)|(simp [*,go_sem];done))
          clear hW
          repeat (go_big_quiet_step (fail))
          refine wpQuiet_nil ?_
          clear xI xJ xK xL
          intro w6 jv
          clear hx1 hy1 hx2 hy2 he1 he2
          go_wp2_with fail
          refine⟨⟨K,i+1,m,rfl,by go_num,by omega,by omega,?_,?_,HO.out.G jv,wy.out.after jv⟩,?_⟩
          ·rw[um.out,show k+1+(i+1)+1=(k+1+i)+2 from by omega,q4K (by rw[gG.out];rfl)]
          ·have h1:=congrArg (List.drop 1) HDR.out
           rw[List.drop_drop,List.drop_drop] at h1
           exact h1
          ·show n-((i:Int)+1+1).toNat<n-((i:Int)+1).toNat
           omega
       ·have hjz:decide ((i:Int)+1<((n-(k+1):Nat):Int))=false:=decide_eq_false (by omega)
        obtain⟨w7,M7,M8,M9⟩:=q3W wr 0 base g K (n-K) n ca (ca-K) m HO.out (by omega)
        have qI:Hid (POwn w7 base (.slice (some ⟨g,0,none⟩) K ca) (q0u l n)):=by
         have e:k+1+i+1=n:=by omega
         rw[← e,← um.out];exact M8
        have GH:Hid (OntoP base (.slice (some ⟨g,0,none⟩) n ca) w w7):=by
         rcases M9 with rfl|⟨row,rfl⟩
         ·exact wy.out
         ·exact wy.out.row rfl hbg.1 row
        clear M8 M9 mM
        go_wp2_with fail
        go_ret
        exact⟨_,rfl,qI.out,GH.out,rfl⟩
   ·have hkz:decide ((k:Int)+1<(n:Int))=false:=decide_eq_false (by omega)
    have hke:q0u l n=l:=by
     have e:n=k+1:=by omega
     rw[e,BO.out,List.take_of_length_le (by rw[← HN.out];omega)]
    have PG:Hid (POwn wr base (.slice (some ⟨g,0,none⟩) n ca) (q0u l n)):=by rw[hke];exact HW.out.G hG
    clear hke
    go_wp2_with fail
    go_ret
    exact⟨_,rfl,PG.out,q1o hG,rfl⟩
end Go.Proofs.YtdidnnbpdcanlaaGreatDoor.EN
