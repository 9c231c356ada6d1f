/- What is proved here: numbers of 53 digits (floats in units of the lowest place), rounding to the nearest of them, and what a float sum lacks. -/
namespace Go.Proofs.YtdidnnbpdcanlaaGreatDoor.EA
/-- A number of at most 53 digits, and zeros behind them. -/
def Rp (n:Nat):Prop:=∃ m q,n=m*2^q∧m<2^53
theorem qas {m q:Nat} (h:m≤2^53):Rp (m*2^q):=by
 by_cases h1:m<2^53
 ·exact⟨m,q,rfl,h1⟩
 ·have:m=2^53:=by omega
  refine⟨2^52,q+1,?_,by omega⟩
  rw[this,Nat.pow_succ 2 q,show (2:Nat)^53=2^52*2 from by omega]
  ac_rfl
theorem q8y {n:Nat} (h:n≤2^53):Rp n:=by have:=qas (q:=0) h;simpa using this
theorem qbh {n k:Nat} (h:Rp n) (hn:2^52*2^k≤n):2^k∣n:=by
 obtain⟨m,q,rfl,hm⟩:=h
 by_cases hk:k≤q
 ·exact Nat.dvd_trans (Nat.pow_dvd_pow 2 hk) (Nat.dvd_mul_left _ _)
 ·exfalso
  have h1:2^k=2^q*2^(k-q-1)*2:=by rw[← Nat.pow_add,← Nat.pow_succ];congr 1;omega
  have hq:=Nat.two_pow_pos q
  have hr:=Nat.two_pow_pos (k-q-1)
  have h2:m*2^q<2^53*2^q:=Nat.mul_lt_mul_of_pos_right hm hq
  have h3:2^53*2^q≤2^52*2^k:=by
   rw[h1,show (2:Nat)^53=2^52*2 from by omega]
   calc 2^52*2*2^q=2^52*(2^q*1*2):=by ac_rfl
    _≤2^52*(2^q*2^(k-q-1)*2):=Nat.mul_le_mul_left _ (Nat.mul_le_mul_right _ (Nat.mul_le_mul_left _ hr))
  omega
/-- v is n, rounded to the nearest number of 53 digits. -/
def IsRn (n v:Nat):Prop:=∃ N k,v=N*2^k∧N≤2^53∧2*n≤2*v+2^k∧2*v≤2*n+2^k∧(k=0∨2^52*2^k≤n)
theorem IsRn.rp {n v:Nat} (h:IsRn n v):Rp v:=by
 obtain⟨N,k,rfl,h1,_⟩:=h
 exact qas h1
/-- Nothing is nearer. -/
theorem IsRn.near {n v x:Nat} (h:IsRn n v) (hx:Rp x):(x≤n→n≤v→v+x≤2*n)∧(x≤n→x≤v)∧(n≤x→v≤x)∧(n≤x→v≤n→2*n≤x+v)∧(x=n→v=n)∧(x≤n→v≤n→x≤v)∧(n≤x→n≤v→v≤x):=by
 obtain⟨N,k,rfl,h1,h2,h3,h4⟩:=h
 rcases h4 with rfl|h4
 ·simp only[Nat.pow_zero,Nat.mul_one] at h2 h3 ⊢
  omega
 ·by_cases hb:2^52*2^k≤x
  ·obtain⟨X,rfl⟩:=qbh hx hb
   rw[Nat.mul_comm (2^k) X]
   have hp:=Nat.two_pow_pos k
   have hlt:N<X∨N=X∨X<N:=by omega
   rcases hlt with h|h|h
   ·have:(N+1)*2^k≤X*2^k:=Nat.mul_le_mul_right _ h
    rw[Nat.add_mul,Nat.one_mul] at this
    omega
   ·rw[h];rw[h] at h2 h3;omega
   ·have:(X+1)*2^k≤N*2^k:=Nat.mul_le_mul_right _ h
    rw[Nat.add_mul,Nat.one_mul] at this
    omega
  ·have hp:=Nat.two_pow_pos k
   have hN:2^52≤N:=by
    by_cases hx:2^52≤N
    ·exact hx
    ·exfalso
     have:(N+1)*2^k≤2^52*2^k:=Nat.mul_le_mul_right _ (by omega)
     rw[Nat.add_mul,Nat.one_mul] at this
     omega
   have h5:2^52*2^k≤N*2^k:=Nat.mul_le_mul_right _ hN
   have hlt:2^52<N∨N=2^52:=by omega
   rcases hlt with h|h
   ·have:(2^52+1)*2^k≤N*2^k:=Nat.mul_le_mul_right _ h
    rw[Nat.add_mul,Nat.one_mul] at this
    omega
   ·rw[h] at h2 h3 ⊢
    omega
theorem IsRn.self {n v:Nat} (h:IsRn n v) (hn:Rp n):v=n:=(h.near hn).2.2.2.2.1 rfl
theorem IsRn.le {n v c:Nat} (h:IsRn n v) (hc:Rp c) (hn:n≤c):v≤c:=(h.near hc).2.2.1 hn
end Go.Proofs.YtdidnnbpdcanlaaGreatDoor.EA
