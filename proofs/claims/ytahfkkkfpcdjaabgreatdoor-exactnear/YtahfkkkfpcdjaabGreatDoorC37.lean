/- What is proved here: contracts of package exact: texts of small numbers, over this seat's translation. -/
import Derived.Test.YtahfkkkfpcdjaabGreatDoorC32
import Derived.Test.YtahfkkkfpcdjaabGreatDoorC36
import Derived.Handy
namespace Go.Proofs.YtahfkkkfpcdjaabGreatDoor.EN
open Go.ChangeShapes Go.WideShapes Go.ChangeAt Go.RowKit

theorem fmt_c (w : World) (n : Nat) (hn : n < 100) : Calls Tryz.prog 119 #[.int .u64 (n : Int), .int .i64 10] w fun e w' => e = .returned (.string ⟨(Lib.decDigits n).toArray⟩) ∧ G w w' := by
  have HS : Hid (∀ w1, Calls Tryz.prog 274 #[.int .i64 (n : Int)] w1 fun e w' => e = .returned (.string ⟨(Lib.decDigits n).toArray⟩) ∧ w' = w1) := fun w1 => Tryz.internal_strconv_small n hn w1
  have hd : decide ((n : Int) < 100) = true := decide_eq_true (by omega)
  have hd2 : decide (n < 100) = true := decide_eq_true hn
  have hni : (n : Int) < 100 := by omega
  have HF : Hid (∀ w1, Calls Tryz.prog 198 #[.int .u64 (n : Int), .int .i64 10] w1 fun e w' => e = .returned (.string ⟨(Lib.decDigits n).toArray⟩) ∧ G w1 w') := by
    intro w1
    go_enter Tryz.func198, Tryz.ntmps198
    go_wp2_with fail
    refine Calls.mono (P := Tryz.prog) (HS.out _) ?_
    rintro e w2 ⟨rfl, rfl⟩
    go_wp2_with fail
    go_ret
    exact ⟨rfl, G.refl _⟩
  clear hd hd2 hn hni
  go_enter Tryz.func119, Tryz.ntmps119
  go_wp2_with fail
  refine Calls.mono (P := Tryz.prog) (HF.out _) ?_
  rintro e w2 ⟨rfl, g⟩
  go_wp2_with fail
  go_ret
  exact ⟨rfl, g⟩

theorem text_c (w : World) (va : Value) (n : Nat) (hn0 : 0 < n) (hn : n < 100) (ha : Num w va n) :
    Calls Tryz.prog 63 #[va] w fun e w' => e = .returned (.string ⟨(Lib.decDigits n).toArray⟩) ∧ G w w' := by
  have HD : Hid _ := divideWord_c w va n 10000000000000000000 1 (by omega) ha (by omega) (by omega) (by omega)
  rw [Nat.div_eq_of_lt (by omega), Nat.mod_eq_of_lt (by omega)] at HD
  have HF : Hid (∀ w1, _) := fun w1 => fmt_c w1 n hn
  have hsl : (⟨(Lib.decDigits n).toArray⟩ : ByteArray).size ≤ 1000 := by
    show (Lib.decDigits n).toArray.size ≤ 1000
    rw [List.size_toArray, Lib.decDigits]
    split
    · simp
    · rw [Lib.decDigits, dif_pos (by omega)]; simp
  rcases num_shape ha with ⟨h, -⟩ | ⟨-, -, nb, no, nc, rfl, -, -, -⟩ | ⟨h, -⟩
  · omega
  · clear ha hn0 hn
    go_enter Tryz.func63, Tryz.ntmps63
    go_wp2_with fail
    refine wp_loop_rounds 2 ?_
    rw [rounds_succ]
    go_wp2_with fail
    refine Calls.mono (P := Tryz.prog) HD.out ?_
    intro e w1 hs
    obtain ⟨v, rfl, g1, hv⟩ := hs
    rcases num_shape hv with ⟨-, pa, pc, rfl⟩ | ⟨h, -⟩ | ⟨h, -⟩
    · go_wp2_with fail
      refine Calls.mono (P := Tryz.prog) (HF.out _) ?_
      rintro e w2 ⟨rfl, g2⟩
      go_wp2_with fail
      generalize hS : Value.string ⟨(Lib.decDigits n).toArray⟩ = S at *
      generalize (Question.appendCap 1 0 9).cut (w2.tape w2.drawn (Question.appendCap 1 0 9)) = cap at *
      generalize Builtin.zeroCells #[Value.string ⟨#[]⟩] (cap - 1) = zc at *
      have hc0 : (#[S] ++ zc)[0]? = some S := by rw [Array.getElem?_append_left (by simp)]; rfl
      have hc : ((w2.alloc (.cells #[S] 9)).alloc (.cells (#[S] ++ zc) 9)).drew.cell? ⟨w2.heap.size + 1, 0, none⟩ = some S := by simp [go_sem, hc0]
      have g3 : G w ((w2.alloc (.cells #[S] 9)).alloc (.cells (#[S] ++ zc) 9)).drew := ((((G.trans g1 g2)).alloc _).alloc _).drew
      have hz3 : w2.heap.size + 1 < ((w2.alloc (.cells #[S] 9)).alloc (.cells (#[S] ++ zc) 9)).drew.heap.size := by simp
      generalize ((w2.alloc (.cells #[S] 9)).alloc (.cells (#[S] ++ zc) 9)).drew = w3 at *
      generalize w2.heap.size + 1 = pb at *
      have hw2 : (Value.slice (some ⟨w2.heap.size, 0, none⟩) 1 1) = Value.slice (some ⟨w2.heap.size, 0, none⟩) 1 1 := rfl
      clear hw2 HF HD hv g1 g2 hc0
      have hbd : (w3.alloc (.cells #[.pointer none, .slice none 0 0] 159)).heap[w3.heap.size]? = some (.cells #[.pointer none, .slice none 0 0] 159 (0, 0)) := by simp only [World.alloc]; exact Array.getElem?_push_size
      have HWR : Hid _ := write_c (w3.alloc (.cells #[.pointer none, .slice none 0 0] 159)) w3.heap.size ⟨(Lib.decDigits n).toArray⟩ hbd hsl
      have HG3 : Hid (G w3 (w3.alloc (.cells #[.pointer none, .slice none 0 0] 159))) := (G.refl w3).alloc _
      clear hbd hsl
      subst hS
      rw [rounds_succ]
      go_wp2_with fail
      refine Calls.mono (P := Tryz.prog) HWR.out ?_
      intro e w4 hs
      obtain ⟨⟨v4, rfl⟩, hib, hbel⟩ := hs
      have HIB : Hid (Lib.IsBuilderF 159 5 w3.heap.size w3.heap.size (Lib.byteCells (Lib.decDigits n)) w4) := hib
      have hG4 : G w3 w4 := Below.trans HG3.out hbel
      have HST : Hid _ := built_c w4 w3.heap.size (Lib.decDigits n) HIB.out hG4.size
      clear HWR HG3 hib hbel HIB
      go_wp2_with fail
      refine wp_loop_rounds 1 ?_
      rw [rounds_succ]
      go_wp2_with fail
      refine Calls.mono (P := Tryz.prog) HST.out ?_
      rintro e w5 ⟨rfl, hb5⟩
      have hG5 : G w3 w5 := Below.trans hG4 hb5
      go_wp2_with fail
      go_ret
      exact ⟨rfl, G.trans g3 hG5⟩
    · omega
    · omega
  · omega
end Go.Proofs.YtahfkkkfpcdjaabGreatDoor.EN
