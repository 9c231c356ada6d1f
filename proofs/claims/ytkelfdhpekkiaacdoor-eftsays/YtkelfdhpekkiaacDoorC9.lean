/- What is proved here: numbers of 53 digits (floats in units of the lowest place), rounding to the nearest of them, and what a float sum lacks. -/
namespace Go.Proofs.YtkelfdhpekkiaacDoor.EA
/-- A number of at most 53 digits, and zeros behind them. -/
def Rp (n : Nat) : Prop := ∃ m q, n = m * 2 ^ q ∧ m < 2 ^ 53

theorem rp_of {m q : Nat} (h : m ≤ 2 ^ 53) : Rp (m * 2 ^ q) := by
  by_cases h1 : m < 2 ^ 53
  · exact ⟨m, q, rfl, h1⟩
  · have : m = 2 ^ 53 := by omega
    refine ⟨2 ^ 52, q + 1, ?_, by omega⟩
    rw [this, Nat.pow_succ 2 q, show (2 : Nat) ^ 53 = 2 ^ 52 * 2 from by omega]
    ac_rfl
theorem rp_small {n : Nat} (h : n ≤ 2 ^ 53) : Rp n := by have := rp_of (q := 0) h; simpa using this
theorem rp_of_dvd {n k : Nat} (hd : 2 ^ k ∣ n) (h : n ≤ 2 ^ 53 * 2 ^ k) : Rp n := by
  obtain ⟨c, rfl⟩ := hd
  have hp := Nat.two_pow_pos k
  have : c ≤ 2 ^ 53 := by
    rw [Nat.mul_comm] at h
    exact Nat.le_of_mul_le_mul_right h hp
  rw [Nat.mul_comm]
  exact rp_of this
theorem rp_dvd {n k : Nat} (h : Rp n) (hn : 2 ^ 52 * 2 ^ k ≤ n) : 2 ^ k ∣ n := by
  obtain ⟨m, q, rfl, hm⟩ := h
  by_cases hk : k ≤ q
  · exact Nat.dvd_trans (Nat.pow_dvd_pow 2 hk) (Nat.dvd_mul_left _ _)
  · exfalso
    have h1 : 2 ^ k = 2 ^ q * 2 ^ (k - q - 1) * 2 := by rw [← Nat.pow_add, ← Nat.pow_succ]; congr 1; omega
    have hq := Nat.two_pow_pos q
    have hr := Nat.two_pow_pos (k - q - 1)
    have h2 : m * 2 ^ q < 2 ^ 53 * 2 ^ q := Nat.mul_lt_mul_of_pos_right hm hq
    have h3 : 2 ^ 53 * 2 ^ q ≤ 2 ^ 52 * 2 ^ k := by
      rw [h1, show (2 : Nat) ^ 53 = 2 ^ 52 * 2 from by omega]
      calc 2 ^ 52 * 2 * 2 ^ q = 2 ^ 52 * (2 ^ q * 1 * 2) := by ac_rfl
        _ ≤ 2 ^ 52 * (2 ^ q * 2 ^ (k - q - 1) * 2) := Nat.mul_le_mul_left _ (Nat.mul_le_mul_right _ (Nat.mul_le_mul_left _ hr))
    omega
/-- Its lowest place. -/
theorem rp_base {n : Nat} (h : Rp n) : ∃ k, 2 ^ k ∣ n ∧ n < 2 ^ 53 * 2 ^ k ∧ (k = 0 ∨ 2 ^ 52 * 2 ^ k ≤ n) := by
  by_cases h0 : n < 2 ^ 53
  · exact ⟨0, by simp, by simpa using h0, Or.inl rfl⟩
  · have hl := Nat.log2_self_le (n := n) (by omega)
    have hu := Nat.lt_log2_self (n := n)
    have h53 : 53 ≤ n.log2 := by
      by_cases hx : 53 ≤ n.log2
      · exact hx
      · exfalso
        have : 2 ^ (n.log2 + 1) ≤ 2 ^ 53 := Nat.pow_le_pow_right (by omega) (by omega)
        omega
    have e1 : 2 ^ n.log2 = 2 ^ 52 * 2 ^ (n.log2 - 52) := by rw [← Nat.pow_add]; congr 1; omega
    have e2 : 2 ^ (n.log2 + 1) = 2 ^ 53 * 2 ^ (n.log2 - 52) := by rw [← Nat.pow_add]; congr 1; omega
    rw [e1] at hl
    rw [e2] at hu
    exact ⟨n.log2 - 52, rp_dvd h hl, hu, Or.inr hl⟩

/-- v is n, rounded to the nearest number of 53 digits. -/
def IsRn (n v : Nat) : Prop := ∃ N k, v = N * 2 ^ k ∧ N ≤ 2 ^ 53 ∧ 2 * n ≤ 2 * v + 2 ^ k ∧ 2 * v ≤ 2 * n + 2 ^ k ∧ (k = 0 ∨ 2 ^ 52 * 2 ^ k ≤ n)
theorem IsRn.rp {n v : Nat} (h : IsRn n v) : Rp v := by
  obtain ⟨N, k, rfl, h1, _⟩ := h
  exact rp_of h1
/-- Nothing is nearer. -/
theorem IsRn.near {n v x : Nat} (h : IsRn n v) (hx : Rp x) : (x ≤ n → n ≤ v → v + x ≤ 2 * n) ∧ (x ≤ n → x ≤ v) ∧ (n ≤ x → v ≤ x) ∧ (n ≤ x → v ≤ n → 2 * n ≤ x + v) ∧ (x = n → v = n) ∧ (x ≤ n → v ≤ n → x ≤ v) ∧ (n ≤ x → n ≤ v → v ≤ x) := by
  obtain ⟨N, k, rfl, h1, h2, h3, h4⟩ := h
  rcases h4 with rfl | h4
  · simp only [Nat.pow_zero, Nat.mul_one] at h2 h3 ⊢
    omega
  · by_cases hb : 2 ^ 52 * 2 ^ k ≤ x
    · obtain ⟨X, rfl⟩ := rp_dvd hx hb
      rw [Nat.mul_comm (2 ^ k) X]
      have hp := Nat.two_pow_pos k
      have hlt : N < X ∨ N = X ∨ X < N := by omega
      rcases hlt with h | h | h
      · have : (N + 1) * 2 ^ k ≤ X * 2 ^ k := Nat.mul_le_mul_right _ h
        rw [Nat.add_mul, Nat.one_mul] at this
        omega
      · rw [h]; rw [h] at h2 h3; omega
      · have : (X + 1) * 2 ^ k ≤ N * 2 ^ k := Nat.mul_le_mul_right _ h
        rw [Nat.add_mul, Nat.one_mul] at this
        omega
    · have hp := Nat.two_pow_pos k
      have hN : 2 ^ 52 ≤ N := by
        by_cases hx : 2 ^ 52 ≤ N
        · exact hx
        · exfalso
          have : (N + 1) * 2 ^ k ≤ 2 ^ 52 * 2 ^ k := Nat.mul_le_mul_right _ (by omega)
          rw [Nat.add_mul, Nat.one_mul] at this
          omega
      have h5 : 2 ^ 52 * 2 ^ k ≤ N * 2 ^ k := Nat.mul_le_mul_right _ hN
      have hlt : 2 ^ 52 < N ∨ N = 2 ^ 52 := by omega
      rcases hlt with h | h
      · have : (2 ^ 52 + 1) * 2 ^ k ≤ N * 2 ^ k := Nat.mul_le_mul_right _ h
        rw [Nat.add_mul, Nat.one_mul] at this
        omega
      · rw [h] at h2 h3 ⊢
        omega
theorem IsRn.self {n v : Nat} (h : IsRn n v) (hn : Rp n) : v = n := (h.near hn).2.2.2.2.1 rfl
theorem IsRn.le {n v c : Nat} (h : IsRn n v) (hc : Rp c) (hn : n ≤ c) : v ≤ c := (h.near hc).2.2.1 hn
theorem IsRn.ge {n v c : Nat} (h : IsRn n v) (hc : Rp c) (hn : c ≤ n) : c ≤ v := (h.near hc).2.1 hn

/-- A multiple of 2^k stays one, if what is at most 53 places above k is told without rounding. -/
theorem IsRn.dvd {n v k : Nat} (h : IsRn n v) (hd : 2 ^ k ∣ n) : 2 ^ k ∣ v := by
  by_cases hn : n ≤ 2 ^ 53 * 2 ^ k
  · rw [h.self (rp_of_dvd hd hn)]; exact hd
  · have hp : Rp (2 ^ 52 * 2 ^ k) := rp_of (by omega)
    refine rp_dvd h.rp (h.ge hp ?_)
    have := Nat.mul_le_mul_right (2 ^ k) (show 2 ^ 52 ≤ 2 ^ 53 by omega)
    omega

/-- What a sum of two of the same sign lacks (a the greater one). -/
theorem same_sign {a b v : Nat} (ha : Rp a) (hb : Rp b) (hab : b ≤ a) (h : IsRn (a + b) v) :
    a ≤ v ∧ v - a ≤ a ∧ Rp (v - a) ∧ (a + b ≤ v → v - (a + b) ≤ b ∧ Rp (v - (a + b))) ∧ (v ≤ a + b → a + b - v ≤ b ∧ Rp (a + b - v)) := by
  have h1 : a ≤ v := h.ge ha (by omega)
  have h2a : Rp (2 * a) := by
    obtain ⟨m, q, rfl, hm⟩ := ha
    exact ⟨m, q + 1, by rw [Nat.pow_succ]; ac_rfl, hm⟩
  have h2 : v ≤ 2 * a := h.le h2a (by omega)
  have hva : Rp (v - a) := by
    obtain ⟨k, k1, k2, k3⟩ := rp_base ha
    have hv : 2 ^ k ∣ v := by
      rcases k3 with rfl | k3
      · simp
      · exact rp_dvd h.rp (by omega)
    exact rp_of_dvd (Nat.dvd_sub hv k1) (by omega)
  obtain ⟨k, k1, k2, k3⟩ := rp_base hb
  have hka : 2 ^ k ∣ a := by
    rcases k3 with rfl | k3
    · simp
    · exact rp_dvd ha (by omega)
  have hkn : 2 ^ k ∣ a + b := Nat.dvd_add hka k1
  have hkv := h.dvd hkn
  have hn := h.near ha
  refine ⟨h1, by omega, hva, fun hx => ⟨by omega, rp_of_dvd (Nat.dvd_sub hkv hkn) (by omega)⟩, fun hx => ⟨by omega, rp_of_dvd (Nat.dvd_sub hkn hkv) (by omega)⟩⟩

/-- What a difference lacks. -/
theorem other_sign {a b v : Nat} (ha : Rp a) (hb : Rp b) (hab : b ≤ a) (h : IsRn (a - b) v) :
    v ≤ a ∧ Rp (a - v) ∧ (a - b ≤ v → v - (a - b) ≤ b ∧ Rp (v - (a - b))) ∧ (v ≤ a - b → a - b - v ≤ b ∧ Rp (a - b - v)) := by
  have h1 : v ≤ a := h.le ha (by omega)
  obtain ⟨k, k1, k2, k3⟩ := rp_base hb
  have hka : 2 ^ k ∣ a := by
    rcases k3 with rfl | k3
    · simp
    · exact rp_dvd ha (by omega)
  have hkn : 2 ^ k ∣ a - b := Nat.dvd_sub hka k1
  have hkv := h.dvd hkn
  have hn := h.near ha
  have hva : Rp (a - v) := by
    by_cases hx : a ≤ 2 * b
    · rw [h.self (rp_of_dvd hkn (by omega)), show a - (a - b) = b from by omega]; exact hb
    · obtain ⟨j, j1, j2, j3⟩ := rp_base ha
      rcases j3 with rfl | j3
      · rw [h.self (rp_small (by omega)), show a - (a - b) = b from by omega]; exact hb
      · rcases Nat.eq_zero_or_pos j with rfl | hj
        · rw [h.self (rp_small (by omega)), show a - (a - b) = b from by omega]; exact hb
        · obtain ⟨i, rfl⟩ : ∃ i, j = i + 1 := ⟨j - 1, by omega⟩
          obtain ⟨m, hm⟩ := j1
          have e : a = 2 * (2 ^ i * m) := by rw [hm, Nat.pow_succ]; ac_rfl
          have e2 : 2 ^ (i + 1) = 2 * 2 ^ i := by rw [Nat.pow_succ]; omega
          rw [e2] at j2 j3
          have hdx : 2 ^ i ∣ 2 ^ i * m := Nat.dvd_mul_right _ _
          generalize 2 ^ i * m = X at *
          clear hm e2
          have hhalf : Rp X := rp_of_dvd hdx (by omega)
          have hv2 : X ≤ v := h.ge hhalf (by omega)
          have hiv : 2 ^ i ∣ v := rp_dvd h.rp (by omega)
          have hia : 2 ^ i ∣ a := by rw [e]; exact Nat.dvd_trans hdx (Nat.dvd_mul_left _ _)
          exact rp_of_dvd (Nat.dvd_sub hia hiv) (by omega)
  refine ⟨h1, hva, fun hx => ⟨by omega, rp_of_dvd (Nat.dvd_sub hkv hkn) (by omega)⟩, fun hx => ⟨by omega, rp_of_dvd (Nat.dvd_sub hkn hkv) (by omega)⟩⟩

/-- What a product lacks. -/
theorem prod_lacks {m n k v : Nat} (hm : m < 2 ^ 53) (hn : n < 2 ^ 53) (h : IsRn (m * n * 2 ^ k) v) :
    (m * n * 2 ^ k ≤ v → Rp (v - m * n * 2 ^ k)) ∧ (v ≤ m * n * 2 ^ k → Rp (m * n * 2 ^ k - v)) := by
  have hd : 2 ^ k ∣ m * n * 2 ^ k := Nat.dvd_mul_left _ _
  have hv := h.dvd hd
  have hmn : m * n < 2 ^ 53 * 2 ^ 53 := Nat.mul_lt_mul'' hm hn
  have hp := Nat.two_pow_pos k
  have hlt : m * n * 2 ^ k < 2 ^ 53 * 2 ^ 53 * 2 ^ k := Nat.mul_lt_mul_of_pos_right hmn hp
  obtain ⟨N, j, e, h1, h2, h3, h4⟩ := h
  have hj : 2 ^ j ≤ 2 * (2 ^ 53 * 2 ^ k) := by
    rcases h4 with rfl | h4
    · have : 1 ≤ 2 ^ 53 * 2 ^ k := by omega
      omega
    · generalize 2 ^ j = J at *
      generalize 2 ^ k = Kk at *
      omega
  exact ⟨fun _ => rp_of_dvd (Nat.dvd_sub hv hd) (by omega), fun _ => rp_of_dvd (Nat.dvd_sub hd hv) (by omega)⟩

theorem rp_two {a c : Nat} (ha : Rp a) : Rp (a * 2 ^ c) := by
  obtain ⟨m, q, rfl, hm⟩ := ha
  exact ⟨m, q + c, by rw [Nat.pow_add]; ac_rfl, hm⟩

/-- What is left of a quotient: a and b in units of 1 / U (U = 2^u), the quotient N 2^k in these units, g its product by b. -/
theorem quo_lacks {a b N k u g : Nat} (ha : Rp a) (hb : Rp b) (hb0 : b ≠ 0) (hN : N ≤ 2 ^ 53) (hg : g * 2 ^ u = N * 2 ^ k * b)
    (h1 : 2 * (a * 2 ^ u) ≤ 2 * (N * 2 ^ k * b) + 2 ^ k * b) (h2 : 2 * (N * 2 ^ k * b) ≤ 2 * (a * 2 ^ u) + 2 ^ k * b) (h3 : k = 0 ∨ 2 ^ 52 * 2 ^ k * b ≤ a * 2 ^ u) :
    (a ≤ g → Rp (g - a) ∧ g - a ≤ a) ∧ (g ≤ a → Rp (a - g) ∧ a - g ≤ a) := by
  obtain ⟨j, j1, j2, _⟩ := rp_base ha
  obtain ⟨i, i1, i2, _⟩ := rp_base hb
  have hU := Nat.two_pow_pos u
  have hle : g ≤ 2 * a := by
    refine Nat.le_of_mul_le_mul_right (c := 2 ^ u) ?_ hU
    rw [hg, Nat.mul_assoc 2 a]
    rcases h3 with rfl | h3
    · simp only [Nat.pow_zero, Nat.mul_one, Nat.one_mul] at h2 ⊢
      rcases Nat.eq_zero_or_pos N with rfl | hN0
      · simp
      · have : 1 * b ≤ N * b := Nat.mul_le_mul_right _ hN0
        omega
    · rw [Nat.mul_assoc] at h3
      generalize 2 ^ k * b = X at *
      generalize N * 2 ^ k * b = Y at *
      generalize a * 2 ^ u = Z at *
      omega
  obtain ⟨t, ht⟩ : ∃ t, t = k + i - u := ⟨_, rfl⟩
  have hkb : 2 ^ k * b < 2 ^ 53 * 2 ^ (k + i) := by
    rw [Nat.pow_add, show 2 ^ 53 * (2 ^ k * 2 ^ i) = 2 ^ k * (2 ^ 53 * 2 ^ i) from by ac_rfl]
    exact Nat.mul_lt_mul_of_pos_left i2 (Nat.two_pow_pos k)
  have hkt : 2 ^ (k + i) ≤ 2 ^ t * 2 ^ u := by
    rw [← Nat.pow_add]
    exact Nat.pow_le_pow_right (by omega) (by omega)
  have htg : 2 ^ t ∣ g := by
    by_cases hx : k + i ≤ u
    · rw [show t = 0 from by omega]; simp
    · have he : 2 ^ (k + i) = 2 ^ t * 2 ^ u := by rw [← Nat.pow_add]; congr 1; omega
      obtain ⟨c, rfl⟩ := i1
      refine Nat.dvd_of_mul_dvd_mul_right hU ?_
      rw [← he, hg, Nat.pow_add]
      exact ⟨N * c, by ac_rfl⟩
  have hsz : ∀ d, 2 * (d * 2 ^ u) ≤ 2 ^ k * b → d ≤ 2 ^ 53 * 2 ^ t := by
    intro d hd
    refine Nat.le_of_mul_le_mul_right (c := 2 ^ u) ?_ hU
    have : 2 ^ 53 * 2 ^ (k + i) ≤ 2 ^ 53 * 2 ^ t * 2 ^ u := by rw [Nat.mul_assoc]; exact Nat.mul_le_mul_left _ hkt
    omega
  have main : ∀ d, 2 * (d * 2 ^ u) ≤ 2 ^ k * b → d ≤ a → (2 ^ t ∣ a → 2 ^ t ∣ d) → (2 ^ j ∣ g → 2 ^ j ∣ d) → Rp d := by
    intro d d1 d2 d3 d4
    by_cases hj : t ≤ j
    · exact rp_of_dvd (d3 (Nat.dvd_trans (Nat.pow_dvd_pow 2 hj) j1)) (hsz d d1)
    · exact rp_of_dvd (d4 (Nat.dvd_trans (Nat.pow_dvd_pow 2 (by omega)) htg)) (by omega)
  have e1 : N * 2 ^ k * b = g * 2 ^ u := hg.symm
  rw [e1] at h1 h2
  constructor
  · intro hx
    refine ⟨main _ ?_ (by omega) (fun h => Nat.dvd_sub htg h) (fun h => Nat.dvd_sub h j1), by omega⟩
    rw [Nat.sub_mul]; omega
  · intro hx
    refine ⟨main _ ?_ (by omega) (fun h => Nat.dvd_sub h htg) (fun h => Nat.dvd_sub j1 h), by omega⟩
    rw [Nat.sub_mul]; omega

/-- What is left of a root: a in units of 1 / U (U = 2^u), the root N 2^k in these units, g its square. -/
theorem root_lacks {a N k u g : Nat} (ha : Rp a) (hN : N ≤ 2 ^ 53) (hg : g * 2 ^ u = N * 2 ^ k * (N * 2 ^ k))
    (h1 : 4 * (a * 2 ^ u) ≤ (2 * (N * 2 ^ k) + 2 ^ k) * (2 * (N * 2 ^ k) + 2 ^ k)) (h2 : 0 < N → (2 * (N * 2 ^ k) - 2 ^ k) * (2 * (N * 2 ^ k) - 2 ^ k) ≤ 4 * (a * 2 ^ u)) (h3 : k = 0 ∨ 2 ^ 52 * 2 ^ k * (2 ^ 52 * 2 ^ k) ≤ a * 2 ^ u) :
    (a ≤ g → Rp (g - a)) ∧ (g ≤ a → Rp (a - g)) := by
  obtain ⟨j, j1, j2, _⟩ := rp_base ha
  have hU := Nat.two_pow_pos u
  obtain ⟨t, ht⟩ : ∃ t, t = k + k - u := ⟨_, rfl⟩
  have hkk : 2 ^ k * 2 ^ k = 2 ^ (k + k) := by rw [Nat.pow_add]
  have hkt : 2 ^ (k + k) ≤ 2 ^ t * 2 ^ u := by
    rw [← Nat.pow_add]
    exact Nat.pow_le_pow_right (by omega) (by omega)
  have htg : 2 ^ t ∣ g := by
    by_cases hx : k + k ≤ u
    · rw [show t = 0 from by omega]; simp
    · have he : 2 ^ (k + k) = 2 ^ t * 2 ^ u := by rw [← Nat.pow_add]; congr 1; omega
      refine Nat.dvd_of_mul_dvd_mul_right hU ?_
      rw [← he, hg, Nat.pow_add]
      exact ⟨N * N, by ac_rfl⟩
  have hta : 2 ^ t ∣ a := by
    by_cases hj : t ≤ j
    · exact Nat.dvd_trans (Nat.pow_dvd_pow 2 hj) j1
    · exfalso
      have hk : 2 ^ (k + k) = 2 ^ t * 2 ^ u := by rw [← Nat.pow_add]; congr 1; omega
      rcases h3 with h3 | h3
      · omega
      · have h4 : 2 ^ 104 * 2 ^ t ≤ a := by
          refine Nat.le_of_mul_le_mul_right (c := 2 ^ u) ?_ hU
          rw [Nat.mul_assoc, ← hk, Nat.pow_add]
          refine Nat.le_trans (Nat.le_of_eq ?_) h3
          rw [show (2 : Nat) ^ 104 = 2 ^ 52 * 2 ^ 52 from by rw [← Nat.pow_add]]
          ac_rfl
        have h5 : 2 ^ j ≤ 2 ^ t := Nat.pow_le_pow_right (by omega) (by omega)
        omega
  have e1 : (2 * (N * 2 ^ k) + 2 ^ k) * (2 * (N * 2 ^ k) + 2 ^ k) = 4 * (g * 2 ^ u) + (4 * N + 1) * 2 ^ (k + k) := by
    rw [hg, ← hkk]
    generalize 2 ^ k = x
    simp only [Nat.add_mul, Nat.mul_add, Nat.one_mul]
    have a1 : 2 * (N * x) * (2 * (N * x)) = 4 * (N * x * (N * x)) := by rw [show 4 = 2 * 2 from rfl]; ac_rfl
    have a2 : 2 * (N * x) * x = 2 * (N * x * x) := by ac_rfl
    have a3 : x * (2 * (N * x)) = 2 * (N * x * x) := by ac_rfl
    have a4 : 4 * N * (x * x) = 4 * (N * x * x) := by ac_rfl
    rw [a1, a2, a3, a4]; omega
  have e2 : 0 < N → (2 * (N * 2 ^ k) - 2 ^ k) * (2 * (N * 2 ^ k) - 2 ^ k) + (4 * N) * 2 ^ (k + k) = 4 * (g * 2 ^ u) + 2 ^ (k + k) := by
    intro hN0
    obtain ⟨M, rfl⟩ : ∃ M, N = M + 1 := ⟨N - 1, by omega⟩
    rw [hg, ← hkk]
    have e : 2 * ((M + 1) * 2 ^ k) - 2 ^ k = 2 * (M * 2 ^ k) + 2 ^ k := by rw [Nat.add_mul, Nat.one_mul]; omega
    rw [e]
    generalize 2 ^ k = x
    simp only [Nat.add_mul, Nat.mul_add, Nat.one_mul, Nat.mul_one]
    have a1 : 2 * (M * x) * (2 * (M * x)) = 4 * (M * x * (M * x)) := by rw [show 4 = 2 * 2 from rfl]; ac_rfl
    have a2 : 2 * (M * x) * x = 2 * (M * x * x) := by ac_rfl
    have a3 : x * (2 * (M * x)) = 2 * (M * x * x) := by ac_rfl
    have a4 : 4 * M * (x * x) = 4 * (M * x * x) := by ac_rfl
    have a5 : x * (M * x) = M * x * x := by ac_rfl
    rw [a1, a2, a3, a4, a5]; omega
  have fin : ∀ d, 2 ^ t ∣ d → 4 * (d * 2 ^ u) ≤ (4 * N + 1) * 2 ^ (k + k) → Rp d := by
    intro d d1 d2
    refine rp_of_dvd d1 ?_
    obtain ⟨c, rfl⟩ := d1
    rw [Nat.mul_comm]
    refine Nat.mul_le_mul_right _ ?_
    have h5 : 4 * (2 ^ t * c * 2 ^ u) ≤ (4 * N + 1) * (2 ^ t * 2 ^ u) := Nat.le_trans d2 (Nat.mul_le_mul_left _ hkt)
    have h6 : 4 * (2 ^ t * c * 2 ^ u) = 4 * c * (2 ^ t * 2 ^ u) := by ac_rfl
    rw [h6] at h5
    have := Nat.le_of_mul_le_mul_right h5 (Nat.mul_pos (Nat.two_pow_pos t) hU)
    omega
  constructor
  · intro hx
    rcases Nat.eq_zero_or_pos N with rfl | hN0
    · have : g = 0 := by
        rw [Nat.zero_mul, Nat.zero_mul] at hg
        rcases Nat.mul_eq_zero.1 hg with h | h
        · exact h
        · omega
      rw [this, Nat.zero_sub]; exact rp_small (by omega)
    · refine fin _ (Nat.dvd_sub htg hta) ?_
      have := h2 hN0
      have := e2 hN0
      rw [Nat.sub_mul, Nat.add_mul, Nat.one_mul]
      generalize 4 * N * 2 ^ (k + k) = X at *
      generalize 2 ^ (k + k) = Y at *
      omega
  · intro hx
    refine fin _ (Nat.dvd_sub hta htg) ?_
    rw [e1] at h1
    rw [Nat.sub_mul]
    omega
end Go.Proofs.YtkelfdhpekkiaacDoor.EA
