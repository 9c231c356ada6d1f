/- What is proved here: contracts of the library's builder of texts, new and written once, over this seat's translation.
What is proved here: contracts of the library's builder of texts, written again, over this seat's translation. -/
import Derived.Test.YtfnkkkcojnffdaaGreatDoorC1
import Derived.Test.YtfnkkkcojnffdaaGreatDoorC8
import Derived.Test.YtfnkkkcojnffdaaGreatDoorC6
import Derived.Test.YtfnkkkcojnffdaaGreatDoorC16
import Derived.Shelf.Strings.BuilderCap
import Derived.Test.YtfnkkkcojnffdaaGreatDoorC3
namespace Go.Proofs.YtfnkkkcojnffdaaGreatDoor.EN
open Go.ChangeShapes Go.WideShapes Go.ChangeAt Go.RowKit
theorem iq (w:World) (b:Nat) (h:w.heap[b]? =some (.cells #[.pointer none,.slice none 0 0] 130 (0,0))):
  Calls Tryz.prog 162 #[.pointer (some ⟨b,0,none⟩)] w fun e J=>e= .returned (.tuple #[])∧J=w.setCell ⟨b,0,none⟩ (.pointer (some ⟨b,0,none⟩)):=by
 have C:=Rec.f2 (⟨_,h⟩:Rec w b [.pointer none,.slice none 0 0]);have h1:=C.1;have h2:=C.2.2.1;clear C;obtain⟨j,D,B⟩:=bI.1 (show (Tryz.prog.info? 130).map (·.size)=some 2 by kernel_rfl);have A:w.shape? b=some (130,2):=by
  simp [World.shape?,h]
 have I:=Lib.run_to_unsafe w ⟨b,0,none⟩ Tryz.underlying127 Tryz.underlying213 D (by rw[B];decide) A (by show 0<2;omega);have F:(callFunc 200 #[.pointer (some ⟨b,0,none⟩)]).run Tryz.prog w= .ok (.value (.pointer (some ⟨b,0,none⟩))) w:=by kernel_rfl
 have E:=Lib.run_from_unsafe w ⟨b,0,none⟩ Tryz.underlying213 Tryz.underlying127 D A dV;clear h A D B;go_enter Tryz.func162,Tryz.ntmps162
 repeat (first|go_values|go_skip|go_guarded|go_step|go_upon)
 go_end0
 exact⟨rfl,rfl⟩
/-- Written once: the builder's bytes are the text's. -/
theorem q14 (w:World) (b:Nat) (s:ByteArray) (h:w.heap[b]? =some (.cells #[.pointer none,.slice none 0 0] 130 (0,0))) (o:s.size≤1000):
  Calls Tryz.prog 106 #[.pointer (some ⟨b,0,none⟩),.string s] w fun e L=>(∃ v,e= .returned v)∧Lib.IsBuilderF 130 5 b b (Lib.strCells s) L∧Below b w L:=by
 have R:b<w.heap.size:=(aT.1 h).1;have Z:Hid (Calls Tryz.prog 162 #[.pointer (some ⟨b,0,none⟩)] w fun e L=>e= .returned (.tuple #[])∧L=w.setCell ⟨b,0,none⟩ (.pointer (some ⟨b,0,none⟩))):=iq w b h;have C:(w.setCell ⟨b,0,none⟩ (.pointer (some ⟨b,0,none⟩))).heap[b]? =some (.cells #[.pointer (some ⟨b,0,none⟩),.slice none 0 0] 130 (0,0)):=by
  simp only[World.setCell,da,if_true,h,cq];simp
 have E:Below b w (w.setCell ⟨b,0,none⟩ (.pointer (some ⟨b,0,none⟩))):=(Below.refl b w).setCell (p:=⟨b,0,none⟩) (ay b) _;have I:b<(w.setCell ⟨b,0,none⟩ (.pointer (some ⟨b,0,none⟩))).heap.size:=by simpa [World.setCell] using R
 generalize w.setCell ⟨b,0,none⟩ (.pointer (some ⟨b,0,none⟩))=M at *;have O:Hid (Below b w M):=E;have N:Hid (M.heap[b]? =some (.cells #[.pointer (some ⟨b,0,none⟩),.slice none 0 0] 130 (0,0))):=C;obtain⟨i0,hi,S,U,W⟩:=info_parts (show (Tryz.prog.info? 5).map (fun i=>(i.zero,i.size,i.bytes))=some (some (.int .u8 0),1,1) by kernel_rfl);have c1:M.cell? ⟨b,1,none⟩=some (.slice none 0 0):=by simp [World.cell?,C]
 have f1:M.frozen? ⟨b,1,none⟩=false:=by simp [World.frozen?,C]
 clear h C E;go_enter Tryz.func106,Tryz.ntmps106;go_wp2_with fail;refine Calls.mono (P:=Tryz.prog) Z.out ?_;rintro e m ⟨rfl,rfl⟩;have J:=World.ownsRowF_nil m b 5 1;go_wp2_with (at_builtin;refine Lib.wpList_append_own_stringF_cap _ rfl _ _ 128 9 rfl b 5 i0 Tryz.underlying128 Tryz.underlying9 hi S U W _ _ _ rfl J s rfl ?c3 ?c4 ?c5 ?_)
 case c3=>unfold maxLen;omega
 case c4=>omega
 case c5=>exact cy I
 intro j K B A _ _;have D:K.heap[b]? =some (.cells #[.pointer (some ⟨b,0,none⟩),.slice none 0 0] 130 (0,0)):=by
  rw[A.block b I (fun e=>by cases e)];exact N.out
 have d0:K.cell? ⟨b,0,none⟩=some (.pointer (some ⟨b,0,none⟩)):=by simp [World.cell?,D]
 have d1:K.cell? ⟨b,1,none⟩=some (.slice none 0 0):=by simp [World.cell?,D]
 have f2:K.frozen? ⟨b,1,none⟩=false:=by simp [World.frozen?,D]
 obtain⟨X,Y,cap,rfl⟩:∃ X Y cap,j= .slice X Y cap:=by
  rcases B.2 with ⟨hv,_⟩|⟨g,cap,c,fz,hv,_⟩
  ·exact⟨_,_,_,hv⟩
  ·exact⟨_,_,_,hv⟩
 have F:Below b w K:=O.out.grown A (cy I) (fun k d=>by cases d);go_wp2_with fail
 go_ret2
 refine⟨⟨_,rfl⟩,?_,F.setCell (p:=⟨b,1,none⟩) (ay b) _⟩;exact Or.inr (Lib.BuilderAtF.put (T:=130) (e:=5) (ay b) D (bs':=Lib.strCells s) (by simpa [Lib.strCells_length] using B) ey)
/-- A new builder, written once and read: the text. -/
theorem q08 (w:World) (b:Nat) (l:List UInt8) (h:Lib.IsBuilderF 130 5 b b (Lib.byteCells l) w) (hb:b≤w.heap.size):
  Calls Tryz.prog 108 #[.pointer (some ⟨b,0,none⟩)] w fun e A=>e= .returned (.string ⟨l.toArray⟩)∧Below b w A:=
 (Tryz.Builder_String_any_f b b l w h hb).mono fun _ _ h=>⟨h.1,h.2.2⟩
/-- A builder that has been written; it holds l. -/
def Bld (w:World) (b:Nat) (l:List UInt8):Prop:=Lib.BuilderAtF 130 5 b b (.pointer (some ⟨b,0,none⟩)) (Lib.byteCells l) w
theorem Bld.G {w D:World} {b:Nat} {l:List UInt8} (h:Bld w b l) (g:G w D):Bld D b l:=by
 obtain⟨h1,v,h2,h3,E⟩:=h;obtain⟨-,-,-,-,g5⟩:=g;have A:∀ {k:Nat} {o:Obj},w.heap[k]? =some o→k<w.heap.size:=fun h=>(aT.1 h).1;refine⟨h1,v,(g5 b (A h2)).trans h2,⟨h3.1,?_⟩,E⟩;rcases h3.2 with h|⟨g,cap,B,fz,e,hb,C,F⟩
 ·exact Or.inl h
 ·exact Or.inr ⟨g,cap,B,fz,e,hb,(g5 g (A C)).trans C,F⟩
theorem kY (w:World) (b:Nat) (D:w.cell? ⟨b,0,none⟩=some (.pointer (some ⟨b,0,none⟩))):
  Calls Tryz.prog 162 #[.pointer (some ⟨b,0,none⟩)] w fun e C=>e= .returned (.tuple #[])∧C=w:=by
 obtain⟨j,A,-⟩:=bI.1 (show (Tryz.prog.info? 130).map (·.size)=some 2 by kernel_rfl);have B:=Lib.run_neq_ptr_same (P:=Tryz.prog) w ⟨b,0,none⟩ Tryz.underlying127 A;clear A;go_enter Tryz.func162,Tryz.ntmps162;go_wp2_with fail
 go_end0
 exact⟨rfl,rfl⟩
theorem jP (w0 w:World) (b:Nat) (l:List UInt8) (s:List UInt8) (L:Calls Tryz.prog 162 #[.pointer (some ⟨b,0,none⟩)] w0 fun e S=>e= .returned (.tuple #[])∧S=w) (h:Bld w b l) (hs:l.length+s.length≤1000000):
  Calls Tryz.prog 106 #[.pointer (some ⟨b,0,none⟩),.string ⟨s.toArray⟩] w0 fun e S=>(∃ v,e= .returned v)∧Bld S b (l++s)∧Below b w S:=by
 have X:∀ l:List UInt8,(Lib.byteCells l).length=l.length:=fun l=>by simp [Lib.byteCells]
 obtain⟨h1,v,A,E,M⟩:=h;have J:b<w.heap.size:=(aT.1 A).1;have c0:w.cell? ⟨b,0,none⟩=some (.pointer (some ⟨b,0,none⟩)):=by simp [World.cell?,A]
 have c1:w.cell? ⟨b,1,none⟩=some v:=by simp [World.cell?,A]
 have y:=hi9 L;clear L;obtain⟨i0,hi,Z,c,d⟩:=info_parts (show (Tryz.prog.info? 5).map (fun i=>(i.zero,i.size,i.bytes))=some (some (.int .u8 0),1,1) by kernel_rfl);have HN:Hid (v.ownBlock≠some b):=M;have j:=hi9 E;have U:=hi9 A;have I:(Lib.byteCells l).length=l.length:=X l;have K:(⟨s.toArray⟩:ByteArray).size=s.length:=by show s.toArray.size=_;simp
 clear M E A;go_enter Tryz.func106,Tryz.ntmps106;go_wp2_with fail;refine Calls.mono (P:=Tryz.prog) y.out ?_;rintro e w2 ⟨rfl,N⟩;have Y:=N.symm;subst Y;clear N;go_wp2_with (at_builtin;refine Lib.wpList_append_own_stringF_cap _ rfl _ _ 128 9 rfl b 5 i0 Tryz.underlying128 Tryz.underlying9 hi Z c d _ _ _ rfl j.out ⟨s.toArray⟩ rfl ?c3 ?c4 ?c5 ?_)
 case c3=>unfold maxLen;rw[I,K];omega
 case c4=>rw[I,K];omega
 case c5=>exact cy J
 intro v' O C B _ _;have D:O.heap[b]? =some (.cells #[.pointer (some ⟨b,0,none⟩),v] 130 (0,0)):=by
  rw[B.block b J (fun e=>HN.out e.symm)];exact U.out
 have d0:O.cell? ⟨b,0,none⟩=some (.pointer (some ⟨b,0,none⟩)):=by simp [World.cell?,D]
 have d1:O.cell? ⟨b,1,none⟩=some v:=by simp [World.cell?,D]
 have f2:O.frozen? ⟨b,1,none⟩=false:=by simp [World.frozen?,D]
 obtain⟨m,o,cap,rfl⟩:∃ m o cap,v'= .slice m o cap:=by
  rcases C.2 with ⟨hv,_⟩|⟨g,cap,W,fz,hv,_⟩
  ·exact⟨_,_,_,hv⟩
  ·exact⟨_,_,_,hv⟩
 have F:Below b w O:=(Below.refl b w).grown B (cy J) (fun k R=>by
  have h2:=j.out.2;rcases h2 with ⟨e,_⟩|⟨g,cap,W,fz,e,hb,_⟩
  ·rw[e] at R;cases R
  ·rw[e] at R;have e:g=k:=bp R;omega)
 go_wp2_with fail
 go_ret2
 refine⟨⟨_,rfl⟩,?_,F.setCell (p:=⟨b,1,none⟩) (ay b) _⟩;have e:Lib.byteCells (l++s)=Lib.byteCells l++Lib.strCells ⟨s.toArray⟩:=by simp [Lib.byteCells,Lib.strCells]
 unfold Bld;rw[e];exact Lib.BuilderAtF.put (T:=130) (e:=5) (ay b) D (by rw[ag,Lib.strCells_length,I,K];exact C) ey
/-- Written once. -/
theorem mc (w:World) (b:Nat) (l:List UInt8) (h:w.heap[b]? =some (.cells #[.pointer none,.slice none 0 0] 130 (0,0))) (E:l.length≤1000):
  Calls Tryz.prog 106 #[.pointer (some ⟨b,0,none⟩),.string ⟨l.toArray⟩] w fun e B=>(∃ v,e= .returned v)∧Bld B b l∧Below b w B:=by
 have C:Bld (w.setCell ⟨b,0,none⟩ (.pointer (some ⟨b,0,none⟩))) b []:=by
  refine⟨ay b,.slice none 0 0,?_,⟨by simp [Lib.byteCells],Or.inl ⟨rfl,by simp [Lib.byteCells]⟩⟩,by intro e;cases e⟩;simp only[World.setCell,da,if_true,h,cq];simp
 have A:Below b w (w.setCell ⟨b,0,none⟩ (.pointer (some ⟨b,0,none⟩))):=(Below.refl b w).setCell (p:=⟨b,0,none⟩) (ay b) _;have D:Hid (Calls Tryz.prog 162 #[.pointer (some ⟨b,0,none⟩)] w fun e B=>e= .returned (.tuple #[])∧B=w.setCell ⟨b,0,none⟩ (.pointer (some ⟨b,0,none⟩))):=iq w b h;generalize w.setCell ⟨b,0,none⟩ (.pointer (some ⟨b,0,none⟩))=F at *;have h2:=jP w F b [] l D.out C (by simpa using ch E dT);refine h2.mono ?_;rintro e B ⟨h1,h2,h3⟩;exact⟨h1,by simpa using h2,Below.trans A h3⟩
theorem iC (w:World) (b:Nat) (l:List UInt8) (s:List UInt8) (h:Bld w b l) (B:l.length+s.length≤1000000):
  Calls Tryz.prog 106 #[.pointer (some ⟨b,0,none⟩),.string ⟨s.toArray⟩] w fun e A=>(∃ v,e= .returned v)∧Bld A b (l++s)∧Below b w A:=
 jP w w b l s (kY w b (Lib.BuilderAtF.cell0 h)) h B
end Go.Proofs.YtfnkkkcojnffdaaGreatDoor.EN
