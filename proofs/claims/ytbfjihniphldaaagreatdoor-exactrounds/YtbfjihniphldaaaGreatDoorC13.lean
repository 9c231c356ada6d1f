/- What is proved here: contracts of the library's builder of texts, new and written once, over this seat's translation. -/
import Derived.Test.YtbfjihniphldaaaGreatDoorC7
import Derived.Test.YtbfjihniphldaaaGreatDoorC10
import Derived.Shelf.Strings.BuilderCap
namespace Go.Proofs.YtbfjihniphldaaaGreatDoor.EN
open Go.ChangeShapes Go.WideShapes Go.ChangeAt Go.RowKit
theorem q4U (w:World) (b:Nat) (h:w.heap[b]? =some (.cells #[.pointer none,.slice none 0 0] 176 (0,0))):
  Calls Tryz.prog 214 #[.pointer (some ⟨b,0,none⟩)] w fun e w'=>e= .returned (.tuple #[])∧w'=w.setCell ⟨b,0,none⟩ (.pointer (some ⟨b,0,none⟩)):=by
 have h0:=Rec.f2 (⟨_,h⟩:Rec w b [.pointer none,.slice none 0 0]);have h1:=h0.1;have h2:=h0.2.2.1;clear h0;obtain⟨j,hj,hjs⟩:=Option.map_eq_some_iff.1 (show (Tryz.prog.info? 176).map (·.size)=some 2 by kernel_rfl);have hsh:w.shape? b=some (176,2):=by
  simp [World.shape?,h]
 have hto:=Lib.run_to_unsafe w ⟨b,0,none⟩ Tryz.underlying173 Tryz.underlying236 hj (by rw[hjs];decide) hsh (by show 0<2;omega);have hno:(callFunc 237 #[.pointer (some ⟨b,0,none⟩)]).run Tryz.prog w= .ok (.value (.pointer (some ⟨b,0,none⟩))) w:=by kernel_rfl
 have hfr:=Lib.run_from_unsafe w ⟨b,0,none⟩ Tryz.underlying236 Tryz.underlying173 hj hsh (by kernel_rfl);clear h hsh hj hjs;go_enter Tryz.func214,Tryz.ntmps214
 repeat (first|go_values|go_skip|go_guarded|go_step|go_upon)
 go_end0
 exact⟨rfl,rfl⟩
/-- Written once: the builder's bytes are the text's. -/
theorem qay (w:World) (b:Nat) (s:ByteArray) (h:w.heap[b]? =some (.cells #[.pointer none,.slice none 0 0] 176 (0,0))) (hs:s.size≤1000):
  Calls Tryz.prog 164 #[.pointer (some ⟨b,0,none⟩),.string s] w fun e w'=>(∃ v,e= .returned v)∧Lib.IsBuilderF 176 5 b b (Lib.strCells s) w'∧Below b w w':=by
 have hbl:b<w.heap.size:=(Array.getElem?_eq_some_iff.1 h).1;have HC:Hid (Calls Tryz.prog 214 #[.pointer (some ⟨b,0,none⟩)] w fun e w'=>e= .returned (.tuple #[])∧w'=w.setCell ⟨b,0,none⟩ (.pointer (some ⟨b,0,none⟩))):=q4U w b h;have hb1:(w.setCell ⟨b,0,none⟩ (.pointer (some ⟨b,0,none⟩))).heap[b]? =some (.cells #[.pointer (some ⟨b,0,none⟩),.slice none 0 0] 176 (0,0)):=by
  simp only[World.setCell,Array.getElem?_modify,if_true,h,Option.map_some];simp
 have hbel:Below b w (w.setCell ⟨b,0,none⟩ (.pointer (some ⟨b,0,none⟩))):=(Below.refl b w).setCell (p:=⟨b,0,none⟩) (Nat.le_refl b) _;have hsz:b<(w.setCell ⟨b,0,none⟩ (.pointer (some ⟨b,0,none⟩))).heap.size:=by simpa [World.setCell] using hbl
 generalize w.setCell ⟨b,0,none⟩ (.pointer (some ⟨b,0,none⟩))=w1 at *;have TI:Hid (Below b w w1):=hbel;have HB1:Hid (w1.heap[b]? =some (.cells #[.pointer (some ⟨b,0,none⟩),.slice none 0 0] 176 (0,0))):=hb1;obtain⟨i0,hi,hz0,hz1,hz2⟩:=info_parts (show (Tryz.prog.info? 5).map (fun i=>(i.zero,i.size,i.bytes))=some (some (.int .u8 0),1,1) by kernel_rfl);have c1:w1.cell? ⟨b,1,none⟩=some (.slice none 0 0):=by simp [World.cell?,hb1]
 have f1:w1.frozen? ⟨b,1,none⟩=false:=by simp [World.frozen?,hb1]
 clear h hb1 hbel;go_enter Tryz.func164,Tryz.ntmps164;go_wp2_with fail;refine Calls.mono (P:=Tryz.prog) HC.out ?_;rintro e w2 ⟨rfl,rfl⟩;have hown:=World.ownsRowF_nil w2 b 5 1;go_wp2_with (at_builtin;refine Lib.wpList_append_own_stringF_cap _ rfl _ _ 174 9 rfl b 5 i0 Tryz.underlying174 Tryz.underlying9 hi hz0 hz1 hz2 _ _ _ rfl hown s rfl ?c3 ?c4 ?c5 ?_)
 case c3=>unfold maxLen;omega
 case c4=>omega
 case c5=>exact Nat.le_of_lt hsz
 intro v' w3 hown' hgrow _ _;have hb3:w3.heap[b]? =some (.cells #[.pointer (some ⟨b,0,none⟩),.slice none 0 0] 176 (0,0)):=by
  rw[hgrow.block b hsz (fun e=>by cases e)];exact HB1.out
 have d0:w3.cell? ⟨b,0,none⟩=some (.pointer (some ⟨b,0,none⟩)):=by simp [World.cell?,hb3]
 have d1:w3.cell? ⟨b,1,none⟩=some (.slice none 0 0):=by simp [World.cell?,hb3]
 have f2:w3.frozen? ⟨b,1,none⟩=false:=by simp [World.frozen?,hb3]
 obtain⟨ao,n',cap,rfl⟩:∃ ao n' cap,v'= .slice ao n' cap:=by
  rcases hown'.2 with ⟨hv,_⟩|⟨g,cap,cur,fz,hv,_⟩
  ·exact⟨_,_,_,hv⟩
  ·exact⟨_,_,_,hv⟩
 have Fw:Below b w w3:=TI.out.grown hgrow (Nat.le_of_lt hsz) (fun k hk=>by cases hk);go_wp2_with fail
 go_ret2
 refine⟨⟨_,rfl⟩,?_,Fw.setCell (p:=⟨b,1,none⟩) (Nat.le_refl b) _⟩;exact Or.inr (Lib.BuilderAtF.put (T:=176) (e:=5) (Nat.le_refl b) hb3 (bs':=Lib.strCells s) (by simpa [Lib.strCells_length] using hown') (by decide))
/-- A new builder, written once and read: the text. -/
theorem qaJ (w:World) (b:Nat) (l:List UInt8) (h:Lib.IsBuilderF 176 5 b b (Lib.byteCells l) w) (hb:b≤w.heap.size):
  Calls Tryz.prog 166 #[.pointer (some ⟨b,0,none⟩)] w fun e w'=>e= .returned (.string ⟨l.toArray⟩)∧Below b w w':=
 (Tryz.Builder_String_any_f b b l w h hb).mono fun _ _ h=>⟨h.1,h.2.2⟩
end Go.Proofs.YtbfjihniphldaaaGreatDoor.EN
