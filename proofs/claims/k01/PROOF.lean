import PyProof.Rows.All
import Wide.All
import OpenK.AllK
import Wide.FinOn
import HandS.ForMost
import HandS.Evl
import HandS.Gcd
import HandS.Wide
import HandS.NoneIn
import HandS.IsInst
import HandS.Exc
import HandS.TryOnly
import HandS.ExcOwn
import HandS.WordsExc
import HandS.ExcInit
import HandS.ExcField
import HandS.ExcIs
import HandS.SetFor
import KE.KExcIs
import PyProof.ReprRoads
import KE.KTypeName
import PySem.Challenge.RW_onenumber_k01_fractions
set_option Elab.async false
set_option linter.all false
/-! fractions as core rationals -/
namespace Jf
theorem gcd_pos {n d : Int} (hd : d ≠ 0) : 0 < Nat.gcd n.natAbs d.natAbs := Nat.gcd_pos_of_pos_right _ (by omega)
theorem low_split (n d : Int) (hd : d ≠ 0) : ∃ (g : Nat) (k m : Int), g = Nat.gcd n.natAbs d.natAbs ∧ 0 < g ∧ n = (g : Int) * k ∧ d = (g : Int) * m ∧ (Rat.divInt n d).num = d.sign * k ∧ ((Rat.divInt n d).den : Int) = d.sign * m := by
  have h1 : ((Nat.gcd n.natAbs d.natAbs : Nat) : Int) ∣ n := Int.ofNat_dvd_left.mpr (Nat.gcd_dvd_left _ _)
  have h2 : ((Nat.gcd n.natAbs d.natAbs : Nat) : Int) ∣ d := Int.ofNat_dvd_left.mpr (Nat.gcd_dvd_right _ _)
  obtain ⟨k, hk⟩ := h1
  obtain ⟨m, hm⟩ := h2
  have hp := gcd_pos (n := n) hd
  refine ⟨_, k, m, rfl, hp, hk, hm, ?_, ?_⟩
  · have hg : (d.gcd n : Nat) = Nat.gcd n.natAbs d.natAbs := by rw [Int.gcd_comm]; rfl
    rw [Rat.num_divInt, hg]
    generalize hG : Nat.gcd n.natAbs d.natAbs = G at *
    have hG0 : (G : Int) ≠ 0 := by omega
    rw [hk, ← Int.mul_assoc, Int.mul_comm d.sign (G : Int), Int.mul_assoc, Int.mul_ediv_cancel_left _ hG0]
  · have hg : (d.gcd n : Nat) = Nat.gcd n.natAbs d.natAbs := by rw [Int.gcd_comm]; rfl
    rw [Rat.den_divInt, if_neg hd, hg]
    generalize hG : Nat.gcd n.natAbs d.natAbs = G at *
    have hG0 : (G : Int) ≠ 0 := by omega
    have e : d.natAbs = G * m.natAbs := by rw [hm, Int.natAbs_mul]; rfl
    rw [e, Nat.mul_div_cancel_left _ hp]
    have hs : d.sign = m.sign := by rw [hm, Int.sign_mul, Int.sign_natCast_of_ne_zero (by omega), Int.one_mul]
    rw [hs, Int.sign_mul_self]
/-- the program's lowest -/
theorem lowest_eq (n d : Int) (hd : d ≠ 0) :
    n.fdiv (if d < 0 then -((Nat.gcd n.natAbs d.natAbs : Nat) : Int) else ((Nat.gcd n.natAbs d.natAbs : Nat) : Int)) = (Rat.divInt n d).num ∧
    d.fdiv (if d < 0 then -((Nat.gcd n.natAbs d.natAbs : Nat) : Int) else ((Nat.gcd n.natAbs d.natAbs : Nat) : Int)) = ((Rat.divInt n d).den : Int) := by
  obtain ⟨g, k, m, hg, hp, hn, hm, e1, e2⟩ := low_split n d hd
  rw [← hg, e1, e2]
  have hg0 : (g : Int) ≠ 0 := by omega
  by_cases h : d < 0
  · rw [if_pos h, Int.sign_eq_neg_one_of_neg h]
    have hn' : n = (-(g : Int)) * (-k) := by rw [hn]; grind
    have hm' : d = (-(g : Int)) * (-m) := by rw [hm]; grind
    have hg1 : (-(g : Int)) ≠ 0 := by omega
    constructor
    · rw [hn', Int.mul_fdiv_cancel_left _ hg1]; omega
    · rw [hm', Int.mul_fdiv_cancel_left _ hg1]; omega
  · rw [if_neg h, Int.sign_eq_one_of_pos (by omega)]
    constructor
    · rw [hn, Int.mul_fdiv_cancel_left _ hg0]; omega
    · rw [hm, Int.mul_fdiv_cancel_left _ hg0]; omega
/-- the law's low -/
theorem low_eq (n d : Int) (hd : d ≠ 0) (s : Int) (hs : s = if d < 0 then -1 else 1) :
    (s * n) / ((Nat.gcd n.natAbs d.natAbs : Nat) : Int) = (Rat.divInt n d).num ∧ (s * d) / ((Nat.gcd n.natAbs d.natAbs : Nat) : Int) = ((Rat.divInt n d).den : Int) := by
  obtain ⟨g, k, m, hg, hp, hn, hm, e1, e2⟩ := low_split n d hd
  rw [← hg, e1, e2]
  have hg0 : (g : Int) ≠ 0 := by omega
  have hs' : s = d.sign := by
    by_cases h : d < 0
    · rw [hs, if_pos h, Int.sign_eq_neg_one_of_neg h]
    · rw [hs, if_neg h, Int.sign_eq_one_of_pos (by omega)]
  rw [hs']
  constructor
  · rw [show d.sign * n = (g : Int) * (d.sign * k) by rw [hn]; grind, Int.mul_ediv_cancel_left _ hg0]
  · rw [show d.sign * d = (g : Int) * (d.sign * m) by
      generalize d.sign = z
      rw [hm]; grind, Int.mul_ediv_cancel_left _ hg0]
theorem num_le (n d : Int) (hd : d ≠ 0) : (Rat.divInt n d).num.natAbs ≤ n.natAbs := by
  obtain ⟨g, k, m, hg, hp, hn, hm, e1, e2⟩ := low_split n d hd
  have hs : d.sign.natAbs = 1 := by rw [Int.natAbs_sign, if_neg hd]
  rw [e1, Int.natAbs_mul, hs, hn, Int.natAbs_mul, Nat.one_mul]
  exact Nat.le_mul_of_pos_left _ (by omega)
theorem den_le (n d : Int) (hd : d ≠ 0) : (Rat.divInt n d).den ≤ d.natAbs := by
  obtain ⟨g, k, m, hg, hp, hn, hm, e1, e2⟩ := low_split n d hd
  have hs : d.sign.natAbs = 1 := by rw [Int.natAbs_sign, if_neg hd]
  have e3 : (Rat.divInt n d).den = m.natAbs := by
    have := congrArg Int.natAbs e2
    rw [Int.natAbs_mul, hs, Nat.one_mul] at this
    simpa using this
  rw [e3]
  have : d.natAbs = g * m.natAbs := by rw [hm, Int.natAbs_mul]; rfl
  rw [this]
  exact Nat.le_mul_of_pos_left _ (by omega)
theorem den_pos (q : Rat) : (0 : Int) < (q.den : Int) := by have := q.den_pos; omega
theorem den_ne (q : Rat) : (q.den : Int) ≠ 0 := by have := q.den_pos; omega
theorem add_eq (q r : Rat) : Rat.divInt (q.num * r.den + r.num * q.den) (q.den * r.den) = q + r := by
  rw [← Rat.divInt_add_divInt _ _ (den_ne q) (den_ne r), Rat.num_divInt_den, Rat.num_divInt_den]
theorem sub_eq (q r : Rat) : Rat.divInt (q.num * r.den - r.num * q.den) (q.den * r.den) = q - r := by
  rw [← Rat.divInt_sub_divInt _ _ (den_ne q) (den_ne r), Rat.num_divInt_den, Rat.num_divInt_den]
theorem mul_eq (q r : Rat) : Rat.divInt (q.num * r.num) (q.den * r.den) = q * r := by
  rw [← Rat.divInt_mul_divInt, Rat.num_divInt_den, Rat.num_divInt_den]
theorem div_eq (q r : Rat) : Rat.divInt (q.num * r.den) (q.den * r.num) = q / r := by
  rw [Rat.div_def, Rat.inv_def, ← Rat.divInt_mul_divInt, Rat.num_divInt_den]
theorem num_ne {r : Rat} (h : r ≠ 0) : r.num ≠ 0 := fun e => h (Rat.num_eq_zero.mp e)
theorem red (q : Rat) : Nat.gcd q.num.natAbs (q.den : Int).natAbs = 1 := by
  have := q.reduced
  simpa [Nat.Coprime] using this
/-- compare -/
def cmp (q r : Rat) : Int := if q = r then 0 else if r < q then 1 else -1
theorem cmp_eq (q r : Rat) : (if (q - r).num = 0 then (0 : Int) else if 0 < (q - r).num then 1 else -1) = cmp q r := by
  unfold cmp
  have e : (q - r).num = 0 ↔ q = r := by
    rw [Rat.num_eq_zero]
    constructor <;> intro h <;> grind
  by_cases h : q = r
  · rw [if_pos (e.mpr h), if_pos h]
  · rw [if_neg (fun z => h (e.mp z)), if_neg h]
    have e2 : 0 < (q - r).num ↔ r < q := by
      have h1 : (0 : Int) ≤ (q - r).num ↔ 0 ≤ q - r := Rat.num_nonneg
      have h2 : (q - r).num ≠ 0 := fun z => h (e.mp z)
      constructor
      · intro z
        have := h1.mp (by omega)
        grind
      · intro z
        have : 0 ≤ q - r := by grind
        have := h1.mpr this
        omega
    by_cases z : r < q
    · rw [if_pos z, if_pos (e2.mpr z)]
    · rw [if_neg z, if_neg (fun y => z (e2.mp y))]
/-! bounds by powers of two -/
theorem lt_pow_mul {a b m n : Nat} (ha : a < 2 ^ m) (hb : b < 2 ^ n) : a * b < 2 ^ (m + n) := by
  rw [Nat.pow_add]
  exact Nat.mul_lt_mul'' ha hb
theorem lt_pow_add {a b n : Nat} (ha : a < 2 ^ n) (hb : b < 2 ^ n) : a + b < 2 ^ (n + 1) := by
  rw [Nat.pow_succ]; omega
theorem lt_pow_mono {a m n : Nat} (h : m ≤ n) (ha : a < 2 ^ m) : a < 2 ^ n := Nat.lt_of_lt_of_le ha (Nat.pow_le_pow_right (by decide) h)
theorem abs_add_le (a b : Int) : (a + b).natAbs ≤ a.natAbs + b.natAbs := by omega
theorem abs_sub_le (a b : Int) : (a - b).natAbs ≤ a.natAbs + b.natAbs := by omega
/-- a fraction within b bits -/
def Bd (b : Nat) (q : Rat) : Prop := q.num.natAbs < 2 ^ b ∧ q.den < 2 ^ b
theorem Bd.mono {b c : Nat} {q : Rat} (h : b ≤ c) (x : Bd b q) : Bd c q := ⟨lt_pow_mono h x.1, lt_pow_mono h x.2⟩
theorem bd_divInt {n d : Int} {b : Nat} (hd : d ≠ 0) (hn : n.natAbs < 2 ^ b) (hb : d.natAbs < 2 ^ b) : Bd b (Rat.divInt n d) :=
  ⟨Nat.lt_of_le_of_lt (num_le n d hd) hn, Nat.lt_of_le_of_lt (den_le n d hd) hb⟩
theorem bn_mul {i j : Int} {a b : Nat} (ha : i.natAbs < 2 ^ a) (hb : j.natAbs < 2 ^ b) : (i * j).natAbs < 2 ^ (a + b) := by
  rw [Int.natAbs_mul]
  exact lt_pow_mul ha hb
theorem bn_add {i j : Int} {a : Nat} (ha : i.natAbs < 2 ^ a) (hb : j.natAbs < 2 ^ a) : (i + j).natAbs < 2 ^ (a + 1) :=
  Nat.lt_of_le_of_lt (abs_add_le i j) (lt_pow_add ha hb)
theorem bn_sub {i j : Int} {a : Nat} (ha : i.natAbs < 2 ^ a) (hb : j.natAbs < 2 ^ a) : (i - j).natAbs < 2 ^ (a + 1) :=
  Nat.lt_of_le_of_lt (abs_sub_le i j) (lt_pow_add ha hb)
theorem bd_den {q : Rat} {b : Nat} (x : Bd b q) : (q.den : Int).natAbs < 2 ^ b := by
  have := x.2
  simpa using this
/-! Euclid's steps end -/
def euc : Nat → Nat → Nat → Nat × Nat
  | 0, a, b => (a, b)
  | n + 1, a, b => euc n b (a % b)
theorem mod_half {a b : Nat} (hb : 0 < b) (h : b ≤ a) : 2 * (a % b) < a := by
  have h1 : a % b < b := Nat.mod_lt _ hb
  have h2 := Nat.div_add_mod a b
  have h3 : 1 ≤ a / b := Nat.div_pos h hb
  have h4 : b * 1 ≤ b * (a / b) := Nat.mul_le_mul_left b h3
  omega
/-- one step halves the product once b is at most a -/
theorem step_half {a b n : Nat} (hb : 0 < b) (h : b ≤ a) (hp : a * b < 2 ^ (n + 1)) : b * (a % b) < 2 ^ n := by
  have h1 := mod_half hb h
  have h2 : b * (2 * (a % b)) ≤ b * a := Nat.mul_le_mul_left b (Nat.le_of_lt h1)
  rw [Nat.pow_succ] at hp
  have h3 : b * (2 * (a % b)) = 2 * (b * (a % b)) := Nat.mul_left_comm _ _ _
  have h4 : b * a = a * b := Nat.mul_comm _ _
  omega
/-- where one is with n steps left: small enough to end -/
def EucEnds (n a b : Nat) : Prop := b = 0 ∨ (b ≤ a ∧ 1 ≤ n ∧ a * b < 2 ^ (n - 1)) ∨ (2 ≤ n ∧ a * b < 2 ^ (n - 2))
theorem EucEnds.step {n a b : Nat} (hb : b ≠ 0) (h : EucEnds (n + 1) a b) : EucEnds n b (a % b) := by
  have hb0 : 0 < b := Nat.pos_of_ne_zero hb
  have hlt : a % b < b := Nat.mod_lt _ hb0
  rcases h with h | ⟨h1, h2, h3⟩ | ⟨h2, h3⟩
  · exact absurd h hb
  · cases n with
    | zero =>
      have : a * b < 1 := h3
      have h5 : 0 < a * b := Nat.mul_pos (Nat.lt_of_lt_of_le hb0 h1) hb0
      omega
    | succ n =>
      refine .inr (.inl ⟨Nat.le_of_lt hlt, by omega, ?_⟩)
      exact step_half hb0 h1 h3
  · have h6 : b * (a % b) ≤ a * b := by
      rw [Nat.mul_comm]
      exact Nat.mul_le_mul_right b (Nat.mod_le a b)
    refine .inr (.inl ⟨Nat.le_of_lt hlt, by omega, ?_⟩)
    exact Nat.lt_of_le_of_lt h6 (by simpa using h3)
theorem EucEnds.zero {a b : Nat} (h : EucEnds 0 a b) : b = 0 := by
  rcases h with h | ⟨_, h, _⟩ | ⟨h, _⟩ <;> omega
theorem gcd_step {a b g : Nat} (h : Nat.gcd a b = g) : Nat.gcd b (a % b) = g := by
  rw [← h, Nat.gcd_comm a b, Nat.gcd_rec b a, Nat.gcd_comm]
theorem gcd_end {a g : Nat} (h : Nat.gcd a 0 = g) : a = g := by rw [← h, Nat.gcd_zero_right]
end Jf
set_option Elab.async false
set_option linter.all false
namespace Jf
theorem cmp_64 (q r : Rat) : (cmp q r).natAbs < 2 ^ 64 := by
  have : (cmp q r).natAbs ≤ 1 := by unfold cmp; split <;> (try split) <;> decide
  exact Nat.lt_of_le_of_lt this (by decide)
theorem cmp_anti (q r : Rat) : cmp q r = 0 - cmp r q := by unfold cmp; grind
theorem cmp_add (q r s : Rat) : cmp (q + s) (r + s) = cmp q r := by unfold cmp; grind
theorem cmp_sub (q r : Rat) : cmp (q - r) 0 = cmp q r := by unfold cmp; grind
theorem cmp_zero (q r : Rat) : cmp q r = 0 ↔ q = r := by unfold cmp; grind
theorem cmp_trans {q r s : Rat} (h1 : 0 ≤ cmp q r) (h2 : 0 ≤ cmp r s) : ¬ cmp q s < 0 := by unfold cmp at *; grind
theorem cmp_mul (q r s : Rat) : cmp (q * s) (r * s) = cmp q r * cmp s 0 := by
  unfold cmp
  by_cases h : q = r
  · subst h; simp
  · by_cases h0 : s = 0
    · subst h0; simp
    · have e1 : (q - r) * s ≠ 0 := by
        intro e
        rcases Rat.mul_eq_zero.mp e with e | e <;> grind
      have ne : ¬ q * s = r * s := by grind
      rw [if_neg ne, if_neg h, if_neg h0]
      by_cases hs : 0 < s
      · by_cases hq : r < q
        · have := Rat.mul_pos (show 0 < q - r by grind) hs
          grind
        · have := Rat.mul_pos (show 0 < r - q by grind) hs
          grind
      · by_cases hq : r < q
        · have := Rat.mul_pos (show 0 < q - r by grind) (show 0 < -s by grind)
          grind
        · have := Rat.mul_pos (show 0 < r - q by grind) (show 0 < -s by grind)
          grind
theorem six (q : Rat) : Rat.divInt (q.num * 6) (q.den * 6) = q := by
  rw [← Rat.divInt_mul_divInt, Rat.num_divInt_den, Rat.divInt_self' (by decide), Rat.mul_one]
theorem negs (q : Rat) : Rat.divInt (0 - q.num) (0 - q.den) = q := by
  rw [show 0 - q.num = q.num * (-1) by omega, show (0 : Int) - q.den = q.den * (-1) by omega, ← Rat.divInt_mul_divInt, Rat.num_divInt_den, Rat.divInt_self' (by decide), Rat.mul_one]
theorem r_assoc (a b c : Rat) : a + b + c = a + (b + c) := by grind
theorem r_massoc (a b c : Rat) : a * b * c = a * (b * c) := by grind
theorem r_dist (a b c : Rat) : a * (b + c) = a * b + a * c := by grind
theorem r_addsub (a b : Rat) : a + b - b = a := by grind
theorem r_subadd (a b : Rat) : a - b + b = a := by grind
theorem r_divmul (a b : Rat) (h : b ≠ 0) : a / b * b = a := by grind
theorem r_muldiv (a b : Rat) (h : b ≠ 0) : a * b / b = a := by grind
end Jf
set_option Elab.async false
set_option linter.all false
set_option maxRecDepth 100000
set_option maxHeartbeats 4000000
namespace Jf
open PySem PySem.Spec PyProof.Rows L2 Evl
/-- a def of the text behind the top -/
structure FT (K : PySem.W.Frag) (mg : Str → Option Value) (x : Str) (st : Stmt) (ps : List Str) where
  a : Addr
  fd : FuncData
  F : Fun K x x st a fd
  b : Binds K fd ps []
  g : mg x = some (.ref a)
/-- // by a divisor that is not 0, below 2 ^ 9000 in size -/
def CDivZ (_ j : Int) : Prop := j ≠ 0 ∧ j.natAbs.log2 < 9000
theorem op_fdivZ {X : Cx} : OpR X (binaryOp .FloorDiv) (rI CDivZ fun i j => .int (i.fdiv j)) := opI fun i j _ _ _ _ _ hc q =>
  floordiv_int hc.1 q (.inl (PyProof.noPylong_of_log2 hc.2))
theorem log_lt {j : Nat} {b c : Nat} (h : j < 2 ^ b) (hc : b ≤ c) (h0 : 0 < c) : j.log2 < c :=
  Nat.lt_of_lt_of_le (PySem.Flt.log2_lt_of h0 (lt_pow_mono hc h)) (Nat.le_refl _)
theorem mulW {i j : Int} {a b : Nat} (ha : i.natAbs < 2 ^ a) (hb : j.natAbs < 2 ^ b) (h : a + b ≤ 900000) : CMulW i j :=
  wide_mul (lt_pow_mono (Nat.le_succ a) ha) (lt_pow_mono (Nat.le_succ b) hb) (Nat.succ_pos _) (Nat.succ_pos _) (by omega)

/-! ### what evaluates to a value of a kind -/
def EvP (te : TE) (σ : L2.St) (H : Hp) (P : V → Hp → Prop) : Prop := ∀ H1, Ex H H1 → ∀ Q : VK, (∀ v H2, Ex H1 H2 → P v H2 → Q v H2) → te σ H1 Q
/-- a fraction of at most b bits stands at v -/
def Fr (K : PySem.W.Frag) (b : Nat) (q : Rat) (v : V) (H : Hp) : Prop := ∃ p, v = .ref p ∧ SqT K H p [.int q.num, .int (q.den : Int)] ∧ Bd b q
section
variable {K : PySem.W.Frag} {σ : L2.St} {H H' : Hp} {te ta tb : TE} {P : V → Hp → Prop} {v : V} {b c n : Nat} {q r : Rat}
theorem Fr.ex (e : Ex H H') (h : Fr K b q v H) : Fr K b q v H' := by
  obtain ⟨p, rfl, h, x⟩ := h
  exact ⟨p, rfl, ex_t e h, x⟩
theorem Fr.mono (e : b ≤ c) (h : Fr K b q v H) : Fr K c q v H := by
  obtain ⟨p, rfl, h, x⟩ := h
  exact ⟨p, rfl, h, x.mono e⟩
theorem Fr.bd (h : Fr K b q v H) : Bd b q := h.choose_spec.2.2
theorem EvP.mono (e : Ex H H') (h : EvP te σ H P) : EvP te σ H' P := fun H1 a Q q => h H1 (e.trans a) Q q
theorem ep_var {i : Nat} (h : σ[i]? = some (some v)) (hf : Fr K b q v H) : EvP (tVar i) σ H (Fr K b q) := fun H1 e _ k => ⟨v, h, k v H1 (Ex.refl H1) (hf.ex e)⟩
theorem ep_mono (h : EvP te σ H (Fr K b q)) (e : b ≤ c) : EvP te σ H (Fr K c q) := fun H1 a Q k => h H1 a Q fun v H2 e2 f => k v H2 e2 (f.mono e)
theorem ep_is (h : EvP te σ H (Fr K b q)) (e : q = r) : EvP te σ H (Fr K b r) := e ▸ h
theorem ev_0 (h : EvP te σ H (Fr K b q)) : Ev (tOp (rIxT K) te (tC (.int 0))) σ H (.int q.num) := fun H1 a Q k => h H1 a _ fun v H2 e2 f => by
  obtain ⟨p, rfl, f, _⟩ := f
  exact ⟨p, _, 0, .int q.num, rfl, rfl, f, rfl, k H2 e2⟩
theorem ev_1 (h : EvP te σ H (Fr K b q)) : Ev (tOp (rIxT K) te (tC (.int 1))) σ H (.int (q.den : Int)) := fun H1 a Q k => h H1 a _ fun v H2 e2 f => by
  obtain ⟨p, rfl, f, _⟩ := f
  exact ⟨p, _, 1, .int (q.den : Int), rfl, rfl, f, rfl, k H2 e2⟩
/-- a new pair of ints that are a fraction's -/
theorem ep_tup {x y : Int} (ha : Ev ta σ H (.int x)) (hb : Ev tb σ H (.int y)) (e1 : x = q.num) (e2 : y = (q.den : Int)) (bd : Bd b q) : EvP (tTup (tCons ta (tCons tb tNil))) σ H (Fr K b q) := fun H1 a Q k =>
  ha H1 a _ fun H2 a2 => hb H2 (a.trans a2) _ fun H3 a3 => ⟨by show 2 ≤ sizeLine; decide, fun p hp => k _ _ ((a2.trans a3).trans (Ex.new hp)) ⟨p, rfl, by subst e1 e2; exact SqT.of upd_same, bd⟩⟩
theorem ev_mulW {x y : Int} (ha : Ev ta σ H (.int x)) (hb : Ev tb σ H (.int y)) (h : CMulW x y) : Ev (tOp (rI CMulW fun i j => .int (i * j)) ta tb) σ H (.int (x * y)) := ev_op ha hb (rv_I h)
theorem ev_add {x y : Int} (ha : Ev ta σ H (.int x)) (hb : Ev tb σ H (.int y)) : Ev (tOp (rI0 fun i j => .int (i + j)) ta tb) σ H (.int (x + y)) := ev_op ha hb rv_I0
theorem ev_sub {x y : Int} (ha : Ev ta σ H (.int x)) (hb : Ev tb σ H (.int y)) : Ev (tOp (rI0 fun i j => .int (i - j)) ta tb) σ H (.int (x - y)) := ev_op ha hb rv_I0
theorem ev_fdivZ {x y : Int} (ha : Ev ta σ H (.int x)) (hb : Ev tb σ H (.int y)) (h : CDivZ x y) : Ev (tOp (rI CDivZ fun i j => .int (i.fdiv j)) ta tb) σ H (.int (x.fdiv y)) := ev_op ha hb (rv_I h)
theorem ev_neg {x : Int} (ha : Ev ta σ H (.int x)) : Ev (tUn (rU fun i => .int (-i)) ta) σ H (.int (-x)) := ev_un ha ru_neg
theorem s_retP {D : Ends} (h : EvP te σ H P) (k : ∀ v H1, Ex H H1 → P v H1 → D.rt v H1) : tRet te D σ H := h H (Ex.refl H) _ k
theorem s_asgP {D : Ends} {i : Nat} (h : EvP te σ H P) (k : ∀ v H1, Ex H H1 → P v H1 → D.nx (σ.set i (some v)) H1) : tAsg te (gName i) D σ H := h H (Ex.refl H) _ k
theorem s_dropP {D : Ends} (h : EvP te σ H P) (k : ∀ v H1, Ex H H1 → P v H1 → D.nx σ H1) : tDrop te D σ H := h H (Ex.refl H) _ k

/-! ### deep equality of two fractions -/
theorem Fr.dp (h : Fr K b q v H) : Dp K H v (.tuple [.int q.num, .int (q.den : Int)]) := by
  obtain ⟨p, rfl, h, _⟩ := h
  exact .tup h (.cons (.int _) (.cons (.int _) .nil))
theorem eqv_fr (q r : Rat) : PyData.eqv (.tuple [.int q.num, .int (q.den : Int)]) (.tuple [.int r.num, .int (r.den : Int)]) = decide (q = r) := by
  simp only [PyData.eqv, PyData.eqvAll, Bool.and_true]
  have e : q = r ↔ q.num = r.num ∧ (q.den : Int) = (r.den : Int) := by
    constructor
    · rintro rfl
      exact ⟨rfl, rfl⟩
    · rintro ⟨h1, h2⟩
      exact Rat.ext h1 (by omega)
  rw [Bool.eq_iff_iff]
  simp [e]
theorem ev_neD (ha : EvP ta σ H (Fr K b q)) (hb : EvP tb σ H (Fr K c r)) : Ev (tOp (rNeD K) ta tb) σ H (.bl (!decide (q = r))) := fun H1 a Q k =>
  ha H1 a _ fun x H2 a2 f => hb H2 (a.trans a2) _ fun y H3 a3 g => ⟨_, _, (f.ex a3).dp, g.dp, rfl, rfl, by
    rw [eqv_fr]
    exact k H3 (a2.trans a3)⟩
theorem ev_eqD (ha : EvP ta σ H (Fr K b q)) (hb : EvP tb σ H (Fr K c r)) : Ev (tOp (rEqD K) ta tb) σ H (.bl (decide (q = r))) := fun H1 a Q k =>
  ha H1 a _ fun x H2 a2 f => hb H2 (a.trans a2) _ fun y H3 a3 g => ⟨_, _, (f.ex a3).dp, g.dp, rfl, rfl, by
    rw [eqv_fr]
    exact k H3 (a2.trans a3)⟩

/-! ### a def of two fractions -/
/-- op q r, of b + c + 1 bits at most -/
def sp2 (K : PySem.W.Frag) (ok : Rat → Prop) (f : Rat → Rat → Rat) : Sp := fun vs H Q _ => ∃ (u v : V) (b c : Nat) (q r : Rat), vs = [u, v] ∧ Fr K b q u H ∧ Fr K c r v H ∧ b + c + 1 ≤ 8000 ∧ ok r ∧
  ∀ z H', Ex H H' → Fr K (b + c + 1) (f q r) z H' → Q z H'
theorem ep_2 {ok : Rat → Prop} {f : Rat → Rat → Rat} {E : XK} (ha : EvP ta σ H (Fr K b q)) (hb : EvP tb σ H (Fr K c r)) (hk : ok r) (hl : b + c + 1 ≤ 8000) (hn : b + c + 1 = n) : EvP (tCall (sp2 K ok f) [] E (tCons ta (tCons tb tNil))) σ H (Fr K n (f q r)) := fun H1 a Q k =>
  ha H1 a _ fun x H2 a2 g => hb H2 (a.trans a2) _ fun y H3 a3 h => ⟨x, y, b, c, q, r, rfl, g.ex a3, h, hl, hk, fun z H' e w => k z H' ((a2.trans a3).trans e) (by subst hn; exact w)⟩
/-- compare -/
def spC (K : PySem.W.Frag) : Sp := fun vs H Q _ => ∃ (u v : V) (b c : Nat) (q r : Rat), vs = [u, v] ∧ Fr K b q u H ∧ Fr K c r v H ∧ b + c + 1 ≤ 8000 ∧ ∀ H', Ex H H' → Q (.int (cmp q r)) H'
theorem ev_C {E : XK} (ha : EvP ta σ H (Fr K b q)) (hb : EvP tb σ H (Fr K c r)) (hl : b + c + 1 ≤ 8000) : Ev (tCall (spC K) [] E (tCons ta (tCons tb tNil))) σ H (.int (cmp q r)) := fun H1 a Q k =>
  ha H1 a _ fun x H2 a2 g => hb H2 (a.trans a2) _ fun y H3 a3 h => ⟨x, y, b, c, q, r, rfl, g.ex a3, h, hl, fun H' e => k H' ((a2.trans a3).trans e)⟩
/-- is_fraction of a fraction; require_fraction of one -/
def spIs (K : PySem.W.Frag) (x : V) : Sp := fun vs H Q _ => ∃ (u : V) (b : Nat) (q : Rat), vs = [u] ∧ Fr K b q u H ∧ ∀ H', Ex H H' → Q x H'
theorem ev_Is {E : XK} {x : V} (ha : EvP ta σ H (Fr K b q)) : Ev (tCall (spIs K x) [] E (tCons ta tNil)) σ H x := fun H1 a Q k =>
  ha H1 a _ fun u H2 a2 g => ⟨u, b, q, rfl, g, fun H' e => k H' (a2.trans e)⟩
/-- lowest, fraction of two ints -/
def spLow (K : PySem.W.Frag) : Sp := fun vs H Q _ => ∃ (n d : Int) (b : Nat), vs = [.int n, .int d] ∧ d ≠ 0 ∧ n.natAbs < 2 ^ b ∧ d.natAbs < 2 ^ b ∧ b ≤ 8000 ∧ ∀ z H', Ex H H' → Fr K b (Rat.divInt n d) z H' → Q z H'
theorem ep_Low {E : XK} {x y : Int} (ha : Ev ta σ H (.int x)) (hb : Ev tb σ H (.int y)) (hd : y ≠ 0) (hx : x.natAbs < 2 ^ b) (hy : y.natAbs < 2 ^ b) (hl : b ≤ 8000) (hq : Rat.divInt x y = q) : EvP (tCall (spLow K) [] E (tCons ta (tCons tb tNil))) σ H (Fr K b q) := fun H1 a Q k =>
  ha H1 a _ fun H2 a2 => hb H2 (a.trans a2) _ fun H3 a3 => ⟨x, y, b, rfl, hd, hx, hy, hl, fun z H' e w => k z H' ((a2.trans a3).trans e) (by subst hq; exact w)⟩
/-- of any int whether it is one; require_whole -/
def spWhole (x : V) : Sp := fun vs H Q _ => ∃ n : Int, vs = [.int n] ∧ ∀ H', Ex H H' → Q x H'
theorem ev_Whole {E : XK} {x : V} {n : Int} (ha : Ev ta σ H (.int n)) : Ev (tCall (spWhole x) [] E (tCons ta tNil)) σ H x := fun H1 a Q k =>
  ha H1 a _ fun H2 a2 => ⟨n, rfl, fun H' e => k H' (a2.trans e)⟩
end
end Jf
set_option Elab.async false
set_option linter.all false
set_option maxRecDepth 100000
set_option maxHeartbeats 4000000
namespace Jf
open PySem PySem.Spec PyProof.Rows L2 Evl
/-! ### defs that show data: no list or tuple is being shown when they are called -/
structure FnG (P : Program) (w : World) (K : PySem.W.Frag) (mg : Str → Option Value) (base : Heap) (k : Nat) (f : Addr) (fd : FuncData) (ps : List Str) (sp : Sp) : Prop where
  size : ∀ vs H Q E, sp vs H Q E → vs.length = ps.length
  go : ∀ (A : Around) (outer : List Env) (s : Shared) (H : Hp) (args : Args) (us : List Value) (vs : List V) (Q : VK), A.guards = some [] → Room k A →
    Env0 P w K mg base A outer s H → BindsTo s fd args (ps.zip us) → Vals vs us → sp vs H Q E0 → codeAny (model P w) A (.call (.ref f) args) (CR CX0 outer P w H s Q E0) s
section
variable {X : Cx} {k : Nat} {f : Addr} {fd : FuncData} {ps : List Str} {sp : Sp} {x : Str} {p pos : Pos} {e : Expr} {es : List Expr} {t : TA}
/-- f(e, ..) of such a def -/
theorem pe_callG (F : FnG X.prog X.w X.K X.mg X.base k f fd ps sp) (gd : X.A.guards = some []) (hr : Room k X.A) (hg : Gl X x) (hm : X.mg x = some (.ref f)) (hk : PySem.W.keepIn X.K (.ref f) = true) (hb : Binds X.K fd ps [])
    (ha : PA X (e :: es) t) (hdb : (x == ("__debug__" : Str)) = false := by decide)
    (he : starEach (e :: es) X.env = (false, eval e X.env) :: starEach es X.env := by rfl)
    (hpl : (backTo pos (starEach es X.env)).any (·.1) = false := by rfl) : PE X (.Call (.Name x p) (e :: es) [] pos) (tCall sp [] E0 t) := by
  constructor
  intro pins s σ H Q I h
  apply wpAny_Call_Name_kw
  apply ld_glob I hg hm _ hdb
  apply PySem.W.callWith_K (h₀ := X.base) I.ok.mod.kin hk _ he hpl
  apply thn (ha.run pos pins s σ H _ I h)
  rintro us s1 ⟨vs, H1, I1, r, q⟩
  refine ⟨I1.kIn, ?_⟩
  have q' : sp vs H1 Q E0 := by
    have z := q
    rw [List.append_nil] at z
    exact z
  have hz : us.length = ps.length := r.length ▸ F.size _ _ _ _ q'
  have bt := hb s1 us I1.kIn (by simpa using hz)
  rw [List.append_nil] at bt
  apply wpAny_call
  apply codeAny_mono (F.go X.A X.stack s1 H1 ⟨us, []⟩ us vs Q gd hr I1.env0 bt r q')
  intro res s' hq
  match res, hq with
  | .ok (.ret u), hq => exact I1.after hq
  | .error _, hq => exact False.elim hq
end
section
variable {P : Program} {w : World} {K : PySem.W.Frag} {mg : Str → Option Value} {base : Heap}
/-- such a def, by its body -/
theorem okG {x qual : Str} {st : Stmt} {f : Addr} {fd : FuncData} {N ps : List Str} {k : Nat} {sp : Sp} (F : Fun K x qual st f fd) (S : FnScope N ps (defScope st)) (len : ∀ vs H Q E, sp vs H Q E → vs.length = ps.length)
    (body : ∀ (cdv : Value) (A : Around) (outer : List Env) (s : Shared) (H : Hp) (vs : List V) (Q : VK), A.guards = some [] → Room k (A.deeper (envOfC qual (defScope st) s.heap.objs.size f cdv)) → sp vs H Q E0 →
      ∃ t, PSs (cxOf CX0 P w K mg base N qual (defScope st) f cdv A outer s H E0).nox (defBody st) t ∧ t { nx := fun _ H' => Q .non H', rt := Q } (start N vs) H) :
    FnG P w K mg base (k + 1) f fd ps sp := by
  obtain ⟨oc, od, kV, doc, pm, an, cdv, ct, osl, rfl, lk, hcd⟩ := F.ex
  constructor
  · exact len
  intro A outer s H args us vs Q gd hr e0 hb r hsp
  have here : ∀ b o, base.get? b = some o → s.heap.get? b = some o := fun b o e => (e0.bs b o e).1
  have KX : K.In s.heap := e0.mod.kin.keeps here
  have par : ∀ y ∈ ps.zip us, (defScope st).names.lookup y.1 = some .local ∨ ((defScope st).names.lookup y.1 = some .cell ∧ ((cellsFrom (s.heap.objs.size + 1) (defScope st).names []).lookup y.1).isSome = true) := by
    rintro ⟨n, v⟩ hy
    have q := S.par n (List.of_mem_zip hy).1
    exact q.imp id fun z => ⟨z, PySem.W.cellsFrom_some _ _ _ (.inl z)⟩
  apply codeAny_call_function hr.depth (KX _ _ lk) rfl S.co S.gen rfl (PySem.W.codeRec_of KX hcd)
  apply hb
  apply wpAny_newFunctionEnv_cells S.kind par
  intro env he s1 ic
  subst he
  refine ⟨(e0.mod.nolimit.keeps here).keeps ic.toInCall.keep, codeAny_func ?_⟩
  obtain ⟨t, ht, hq⟩ := body cdv A outer s H vs Q gd (hr.deeper _) hsp
  have I0 := inv_start (CX := CX0) (E := E0) S hr.hd e0 (len _ _ _ _ hsp) r ic
  apply wpAny_mono (ht.nox.run [] s1 (start N vs) H _ I0 hq)
  · intro fl s' hs
    match fl, hs with
    | .ret u, ⟨v, σ', H', J, rv, q⟩ => exact ⟨v, H', J.os, J.bare, J.base, J.hok, rv, q⟩
    | .next, ⟨σ', H', J, q⟩ => exact ⟨V.non, H', J.os, J.bare, J.base, J.hok, rfl, q⟩
    | .brk, ⟨_, _, _, q⟩ => exact False.elim q
    | .cont, ⟨_, _, _, q⟩ => exact False.elim q
  · intro e s' hs
    exact hs
end
/-! ### isinstance of the error that a suite holds, its own dict read -/
/-- what its class must say -/
structure ErrC (K : PySem.W.Frag) (C : Addr) : Prop where
  cl : (PySem.W.clsIn K C).isSome = true
  ga : PySem.W.findIn K (.ref C) "__getattribute__" = some (some (.builtin "BaseException.__getattribute__"))
  gg : PySem.W.findIn K (.ref C) "__getattr__" = some none
  ex : PySem.W.subIn K (.ref C) (.type "BaseException") = some true
  hd : PySem.W.hasDictIn K C = true
  kc : PySem.W.findIn K (.ref C) "__class__" = some (some (.builtin "object.__class__"))
  sp : PySem.W.specialIn K (.builtin "object.__class__") "__get__" = some (some (.builtin "getset_descriptor.__get__"))
  tk : PySem.W.takesIn K (.builtin "object.__class__") = some true
  mo : PySem.W.mroIn K C (.type "object") = some true
def rIsD (K : PySem.W.Frag) (a : Addr) (cls : Value) (d : Option Addr) : List V → Hp → VK → Prop := fun xs H Q => ∃ (C B dd : Addr) (fs : List (Str × V)) (b : Bool), xs = [.ref a, .ref B] ∧ cls = .ref C ∧ ErrC K C ∧ d = some dd ∧ H dd = some (.xd fs) ∧ PySem.W.kitOne K (.ref C) (.ref B) = some b ∧ Q (.bl b) H
theorem call_isD {X : Cx} {a : Addr} {oe : Obj} {cls : Value} {d : Option Addr} {pn : List (Addr × Obj)} (hz : Zc cls d oe) (hf : ∃ vs, oe.data = .fields vs) : CallR (X.suite a ((a, oe) :: pn)) (.builtin "isinstance") (rIsD X.K a cls d) := by
  intro pins s σ H xs us Q I r h
  obtain ⟨C, B, dd, fs, b, rfl, rfl, T, rfl, ed, hk, q⟩ := h
  cases r with
  | cons rx rr =>
    cases rr with
    | cons rt rr =>
      cases rr
      cases rx
      cases rt
      have hget := (I.pin (a, oe) (List.mem_append_left _ List.mem_cons_self)).1
      obtain ⟨vs, hv⟩ := hf
      have hx : ObjOk X.prog X.w H s.heap dd (.xd fs) := I.hok dd _ ed
      obtain ⟨mA, hns, _⟩ := hx
      obtain ⟨od, ho, _⟩ := lookIn_ns hns
      have J : PySem.W.InstAt s.heap a oe C (some od) := by
        refine ⟨hget, hz.1, ?_, ?_⟩
        · unfold PySem.W.notCls
          rw [hv] <;> rfl
        · rw [hz.2]
          exact ho
      refine PySem.W.kia_one (PySem.W.kitx_exc T.cl T.ga T.gg T.ex T.kc T.sp T.tk T.mo) I.kIn J hk (fun z => nomatch z) ?_
      intro tk
      exact ⟨.bl b, H, I.kept (t' := tk) fun _ _ z => z, rfl, q⟩
/-! ### repr -/
/-- a list that is written out: it isn't at sys.modules -/
def tLstN (t : TA) : TE := fun σ H Q => t σ H fun xs H1 => xs.length ≤ sizeLine ∧ ∀ p, H1 p = none → p ≠ sysModules → Q (.ref p) (upd H1 p (.lst xs))
theorem pe_lstN {X : Cx} {es : List Expr} {t : TA} {pos : Pos} (h : PA X es t) : PE X (.List es pos) (tLstN t) := by
  constructor
  intro pins s σ H Q I want
  apply wpAny_List_spliced
  apply thn (h.run pos pins s σ H _ I want)
  rintro us s1 ⟨xs, H1, I1, vals, len, k⟩
  have free : H1 s1.heap.objs.size = none := I1.hok.fresh (Nat.le_refl _)
  refine ⟨vals.length ▸ len, .ref _, upd H1 _ (.lst xs), I1.laid (t' := s1.toks) (fun _ _ e => Heap.get?_push_of_some _ e) (Nat.le_refl _) ⟨len, us, 0, vals, Heap.get?_push_size _ rfl⟩, rfl, ?_⟩
  exact k _ free (Nat.ne_of_gt I1.big)
mutual
/-- data at a value: lists that are tracked (and are not what stands at p), tuples, the empty dict -/
inductive Dq (K : PySem.W.Frag) (p : Addr) (H : Hp) : V → PyData → Prop
  | non : Dq K p H .non .none
  | bl (b : Bool) : Dq K p H (.bl b) (.bool b)
  | int (i : Int) : Dq K p H (.int i) (.int i)
  | str (x : Str) : Dq K p H (.str x) (.str x)
  | lst {a : Addr} {xs : List V} {ds : List PyData} : a ≠ p → a ≠ sysModules → H a = some (.lst xs) → DqAll K p H xs ds → Dq K p H (.ref a) (.list ds)
  | tup {a : Addr} {xs : List V} {ds : List PyData} : SqT K H a xs → DqAll K p H xs ds → Dq K p H (.ref a) (.tuple ds)
  | emp {a : Addr} : H a = some (.dK []) → Dq K p H (.ref a) (.dict [])
inductive DqAll (K : PySem.W.Frag) (p : Addr) (H : Hp) : List V → List PyData → Prop
  | nil : DqAll K p H [] []
  | cons {v : V} {vs : List V} {d : PyData} {ds : List PyData} : Dq K p H v d → DqAll K p H vs ds → DqAll K p H (v :: vs) (d :: ds)
end
mutual
theorem Dq.ex {K : PySem.W.Frag} {p : Addr} {H H' : Hp} (e : Ex H H') : ∀ (d : PyData) (v : V), Dq K p H v d → Dq K p H' v d
  | _, _, .non => .non
  | _, _, .bl b => .bl b
  | _, _, .int i => .int i
  | _, _, .str x => .str x
  | _, _, .lst n m h hs => .lst n m (e _ _ h) (DqAll.ex e _ _ hs)
  | _, _, .tup h hs => .tup (ex_t e h) (DqAll.ex e _ _ hs)
  | _, _, .emp h => .emp (e _ _ h)
theorem DqAll.ex {K : PySem.W.Frag} {p : Addr} {H H' : Hp} (e : Ex H H') : ∀ (ds : List PyData) (vs : List V), DqAll K p H vs ds → DqAll K p H' vs ds
  | _, _, .nil => .nil
  | _, _, .cons h hs => .cons (Dq.ex e _ _ h) (DqAll.ex e _ _ hs)
end
section
variable {X : Cx} {pins : List (Addr × Obj)} {σ : L2.St} {H : Hp} {s : Shared}
mutual
theorem Dq.reads {p : Addr} (I : Inv X pins σ H s) : ∀ (d : PyData) (v : V) (u : Value), Dq X.K p H v d → RelV v u → ∃ as, Reads s.heap u d as ∧ sysModules ∉ as
  | _, _, u, .non, r => by
    cases (show u = Value.none from r)
    exact ⟨_, .none, by simp⟩
  | _, _, u, .bl b, r => by
    cases (show u = Value.bool b from r)
    exact ⟨_, .bool b, by simp⟩
  | _, _, u, .int i, r => by
    obtain ⟨t, q⟩ := (show ∃ t, u = Value.int i t from r)
    cases q
    exact ⟨_, .int i t, by simp⟩
  | _, _, u, .str x, r => by
    obtain ⟨t, q⟩ := (show ∃ t, u = Value.str x t from r)
    cases q
    exact ⟨_, .str x t, by simp⟩
  | _, _, u, .lst (a := a) _ m h hs, r => by
    cases (show u = Value.ref a from r)
    have hx : ObjOk X.prog X.w H s.heap a (.lst _) := I.hok a _ h
    obtain ⟨_, its, n, rv, e⟩ := hx
    obtain ⟨as, q, nm⟩ := DqAll.reads I _ _ _ hs rv
    exact ⟨_, .list e rfl rfl (by simpa using q), by
      simp only [List.mem_cons, not_or]
      exact ⟨m.symm, nm⟩⟩
  | _, _, u, .tup (a := a) h hs, r => by
    cases (show u = Value.ref a from r)
    obtain ⟨its, rv, ⟨o, e, c, n, dd⟩, _⟩ := I.tuple h
    obtain ⟨as, q, nm⟩ := DqAll.reads I _ _ _ hs rv
    exact ⟨_, .tuple e c dd (by simpa using q), nm⟩
  | _, _, u, .emp (a := a) h, r => by
    cases (show u = Value.ref a from r)
    obtain ⟨_, nsm, vs, kv, o, es, ep, e, x, dd, _, pr, _⟩ := dk_of I.hok h
    cases kv
    have e0 : es.toList = [] := by
      cases hh : es.toList with
      | nil => rfl
      | cons y ys =>
        rw [hh] at pr
        cases pr
    exact ⟨_, .dict (as := []) (bs := []) e x.1 dd (by rw [e0]; exact .nil) (by rw [e0]; exact .nil), by
      have := (beq_eq_false_iff_ne.mp nsm).symm
      simpa using this⟩
theorem DqAll.reads {p : Addr} (I : Inv X pins σ H s) : ∀ (ds : List PyData) (vs : List V) (us : List Value), DqAll X.K p H vs ds → Vals vs us → ∃ as, ReadsAll s.heap us ds as ∧ sysModules ∉ as
  | _, _, us, .nil, r => by
    cases r
    exact ⟨_, .nil, by simp⟩
  | _, _, us, .cons h hs, r => by
    cases r with
    | cons r1 r2 =>
      obtain ⟨as, q1, n1⟩ := Dq.reads I _ _ _ h r1
      obtain ⟨bs, q2, n2⟩ := DqAll.reads I _ _ _ hs r2
      exact ⟨_, .cons q1 q2, by
        simp only [List.mem_append, not_or]
        exact ⟨n1, n2⟩⟩
end
end
mutual
theorem Dp.nd {K : PySem.W.Frag} {H : Hp} : ∀ (d : PyData) (v : V), Dp K H v d → d.hasDict = false
  | _, _, .non => rfl
  | _, _, .bl _ => rfl
  | _, _, .int _ => rfl
  | _, _, .str _ => rfl
  | _, _, .lst _ hs => by simp only [PyData.hasDict]; exact DpAll.nd _ _ hs
  | _, _, .tup _ hs => by simp only [PyData.hasDict]; exact DpAll.nd _ _ hs
theorem DpAll.nd {K : PySem.W.Frag} {H : Hp} : ∀ (ds : List PyData) (vs : List V), DpAll K H vs ds → PyData.hasDictAll ds = false
  | _, _, .nil => rfl
  | _, _, .cons h hs => by simp only [PyData.hasDictAll, Dp.nd _ _ h, DpAll.nd _ _ hs, Bool.or_false]
end
def rRepr (K : PySem.W.Frag) : List V → Hp → VK → Prop := fun xs H Q => ∃ (x : V) (d : PyData) (p : Addr), xs = [x] ∧ (Dq K p H x d ∨ Dp K H x d) ∧ d.showable = true ∧ d.depth ≤ 60 ∧ d.shown.length ≤ sizeLine ∧ Q (.str d.shown) H
section
variable {X : Cx}
theorem call_repr (gd : X.A.guards = some []) (hu : X.A.units + 64 < cLine) : CallR X (.builtin "repr") (rRepr X.K) := by
  intro pins s σ H xs us Q I r h
  obtain ⟨x, d, p, rfl, hd, hs, hdep, hz, q⟩ := h
  cases r with
  | cons r1 r2 =>
    cases r2
    rename_i u
    obtain ⟨as, hr, nm⟩ : ∃ as, Reads s.heap u d as ∧ (d.hasDict = true → sysModules ∉ as) := by
      rcases hd with hd | hd
      · obtain ⟨as, hr, nm⟩ := Dq.reads I d x u hd r1
        exact ⟨as, hr, fun _ => nm⟩
      · obtain ⟨as, hr⟩ := Dp.reads I d x u hd r1
        exact ⟨as, hr, fun z => by rw [Dp.nd d x hd] at z; cases z⟩
    have fin : ∀ h' u' tk, (∀ b o, s.heap.get? b = some o → h'.get? b = some o) → EP X pins σ Q (.str d.shown u') { s with heap := h', toks := tk } := fun h' u' tk hk => ⟨.str d.shown, H, I.kept hk, ⟨_, rfl⟩, q⟩
    have f0 := fin s.heap s.toks (s.toks + 1) (fun _ _ z => z)
    cases hr with
    | none => exact PySem.P.repr_of_none (by simpa [PyData.shown] using f0)
    | bool b => exact PySem.P.repr_of_bool (by simpa [PyData.shown] using f0)
    | int i t => exact PySem.P.repr_of_int (by simpa [PyData.showable] using hs) (by simpa [PyData.shown] using f0)
    | str y t => exact PySem.P.repr_of_str (by simpa [PyData.shown] using f0) (by simpa [PyData.shown] using hz)
    | list h1 h2 h3 h4 => exact repr_of_reads' (.list h1 h2 h3 h4) hs nm gd (by omega) (fun _ _ z => z) (fun h' u' tk hk => fin h' u' tk hk) hz
    | tuple h1 h2 h3 h4 => exact repr_of_reads' (.tuple h1 h2 h3 h4) hs nm gd (by omega) (fun _ _ z => z) (fun h' u' tk hk => fin h' u' tk hk) hz
    | dict h1 h2 h3 h4 h5 => exact repr_of_reads' (.dict h1 h2 h3 h4 h5) hs nm gd (by omega) (fun _ _ z => z) (fun h' u' tk hk => fin h' u' tk hk) hz
end
end Jf
set_option Elab.async false
set_option linter.all false
set_option maxRecDepth 100000
set_option maxHeartbeats 4000000
namespace Jf
open PySem PySem.Spec PyProof.Rows L2 Evl
/-! ### how long shown data is -/
def lens : List Str → Nat
  | [] => 0
  | t :: ts => t.length + 2 + lens ts
theorem textFrom_le : ∀ (ts : List Str) (k : Nat) (acc : Str), (textFrom k acc ts).length ≤ acc.length + lens ts
  | [], _, acc => by simp [textFrom, lens]
  | t :: ts, k, acc => by
    have h := textFrom_le ts (k + 1) (acc ++ (if k > 0 then ", " else "" : String) ++ t)
    have e : ((if k > 0 then ", " else "" : String) : Str).length ≤ 2 := by
      by_cases z : k > 0
      · rw [if_pos z]; decide
      · rw [if_neg z]; decide
    simp only [textFrom, lens, Str.length_append] at h ⊢
    omega
theorem join_le : ∀ ts : List Str, (Str.join ", " ts).length ≤ lens ts
  | [] => by simp only [Str.join, lens]; decide
  | [x] => by simp only [Str.join, lens]; omega
  | x :: y :: r => by
    have h := join_le (y :: r)
    have e : ((", " : String) : Str).length = 2 := by decide
    simp only [Str.join, lens, Str.length_append] at h ⊢
    omega
mutual
def cost : PyData → Nat
  | .none => 4
  | .bool _ => 5
  | .int i => i.natAbs.log2 + 3
  | .str x => (reprText x).length
  | .list xs => costAll xs + 4
  | .tuple xs => costAll xs + 4
  | .dict [] => 2
  | .dict (_ :: _) => 100000000
def costAll : List PyData → Nat
  | [] => 0
  | x :: xs => cost x + 2 + costAll xs
end
mutual
theorem shown_le : ∀ d : PyData, cost d < 100000000 → d.shown.length ≤ cost d
  | .none, _ => by simp only [PyData.shown, cost]; decide
  | .bool b, _ => by cases b <;> (simp only [PyData.shown, cost]; decide)
  | .int i, _ => by
    simp only [PyData.shown, cost]
    have h := int_text_length_le (a := i) (k := i.natAbs.log2 + 1) (by omega) (by omega)
    show (Str.ofString (toString i)).length ≤ _
    rw [PySem.ofString_length]
    omega
  | .str x, _ => by simp only [PyData.shown, cost]; omega
  | .list xs, h => by
    simp only [cost] at h
    have := shownAll_le xs (by omega)
    have z := textFrom_le (PyData.shownAll xs) 0 (Str.ofString "[")
    have e : (Str.ofString "[").length = 1 := by decide
    have e2 : (Str.ofString "]").length = 1 := by decide
    simp only [PyData.shown, cost, listText, Str.length_append] at z ⊢
    omega
  | .tuple xs, h => by
    simp only [cost] at h
    have := shownAll_le xs (by omega)
    have z := join_le (PyData.shownAll xs)
    have e : (Str.ofString "(").length = 1 := by decide
    have e2 : ((if (PyData.shownAll xs).length == 1 then ",)" else ")" : String) : Str).length ≤ 2 := by
      by_cases q : ((PyData.shownAll xs).length == 1) = true
      · rw [if_pos q]; decide
      · rw [if_neg q]; decide
    simp only [PyData.shown, cost, tupleText, Str.length_append] at z ⊢
    omega
  | .dict [], _ => by simp only [PyData.shown, PyData.shownKv, cost]; decide
  | .dict (_ :: _), h => by simp only [cost] at h; omega
theorem shownAll_le : ∀ ds : List PyData, costAll ds < 100000000 → lens (PyData.shownAll ds) ≤ costAll ds
  | [], _ => by simp [PyData.shownAll, lens, costAll]
  | d :: ds, h => by
    simp only [costAll] at h
    have h1 := shown_le d (by omega)
    have h2 := shownAll_le ds (by omega)
    simp only [PyData.shownAll, lens, costAll]
    omega
end
/-- data that is shown without harm: its text, its depth -/
structure Nc (c e : Nat) (d : PyData) : Prop where
  sh : d.showable = true
  dp : d.depth ≤ e
  co : cost d ≤ c
theorem Nc.mono {c c' e e' : Nat} {d : PyData} (h : Nc c e d) (h1 : c ≤ c') (h2 : e ≤ e') : Nc c' e' d := ⟨h.sh, Nat.le_trans h.dp h2, Nat.le_trans h.co h1⟩
theorem Nc.len {c e : Nat} {d : PyData} (h : Nc c e d) (hc : c ≤ 1000000) : d.shown.length ≤ c := Nat.le_trans (shown_le d (by have := h.co; omega)) h.co
theorem nc_none : Nc 4 0 .none := ⟨rfl, Nat.le_refl _, Nat.le_refl _⟩
theorem nc_bool (b : Bool) : Nc 5 0 (.bool b) := ⟨rfl, Nat.le_refl _, Nat.le_refl _⟩
theorem nc_int {n : Int} {b : Nat} (h : n.natAbs < 2 ^ b) (h0 : 0 < b) (h1 : b ≤ 1900) : Nc (b + 2) 0 (.int n) := by
  have := PySem.Flt.log2_lt_of h0 h
  refine ⟨?_, Nat.le_refl _, ?_⟩
  · simp only [PyData.showable, decide_eq_true_eq]; omega
  · simp only [cost]; omega
theorem nc_str {x : Str} {c : Nat} (h : (reprText x).length ≤ c) : Nc c 0 (.str x) := ⟨rfl, Nat.le_refl _, h⟩
/-- several -/
structure NcA (c e : Nat) (ds : List PyData) : Prop where
  sh : PyData.showableAll ds = true
  dp : PyData.depthAll ds ≤ e
  co : costAll ds ≤ c
theorem nca_nil {e : Nat} : NcA 0 e [] := ⟨rfl, Nat.zero_le _, Nat.le_refl _⟩
theorem nca_cons {c c' e : Nat} {d : PyData} {ds : List PyData} (h : Nc c e d) (hs : NcA c' e ds) : NcA (c + 2 + c') e (d :: ds) := by
  refine ⟨?_, ?_, ?_⟩
  · simp only [PyData.showableAll, h.sh, hs.sh, Bool.and_self]
  · simp only [PyData.depthAll]; exact Nat.max_le.mpr ⟨h.dp, hs.dp⟩
  · simp only [costAll]; have := h.co; have := hs.co; omega
theorem nc_tup {c e : Nat} {ds : List PyData} (h : NcA c e ds) : Nc (c + 4) (e + 1) (.tuple ds) := by
  refine ⟨?_, ?_, ?_⟩
  · simp only [PyData.showable, h.sh]
  · simp only [PyData.depth]; have := h.dp; omega
  · simp only [cost]; have := h.co; omega
theorem nc_lst {c e : Nat} {ds : List PyData} (h : NcA c e ds) : Nc (c + 4) (e + 1) (.list ds) := by
  refine ⟨?_, ?_, ?_⟩
  · simp only [PyData.showable, h.sh]
  · simp only [PyData.depth]; have := h.dp; omega
  · simp only [cost]; have := h.co; omega
theorem nc_emp : Nc 2 1 (.dict []) := ⟨rfl, Nat.le_refl _, Nat.le_refl _⟩
theorem nc_pair {n m : Int} {b : Nat} (hn : n.natAbs < 2 ^ b) (hm : m.natAbs < 2 ^ b) (h0 : 0 < b) (h1 : b ≤ 1900) : Nc (2 * b + 12) 1 (.tuple [.int n, .int m]) :=
  (nc_tup (nca_cons (nc_int hn h0 h1) (nca_cons (nc_int hm h0 h1) nca_nil))).mono (by omega) (by omega)
/-! ### which data is what -/
def tyName : PyData → String
  | .none => "NoneType"
  | .bool _ => "bool"
  | .int _ => "int"
  | .str _ => "str"
  | .list _ => "list"
  | .tuple _ => "tuple"
  | .dict _ => "dict"
def isTup : PyData → Bool
  | .tuple _ => true
  | _ => false
def isInt : PyData → Bool
  | .int _ => true
  | .bool _ => true
  | _ => false
def isBo : PyData → Bool
  | .bool _ => true
  | _ => false
def isWh : PyData → Bool
  | .int _ => true
  | _ => false
theorem wh_eq (d : PyData) : (isInt d && !isBo d) = isWh d := by cases d <;> rfl
theorem kit_tup (d : PyData) : kitB (tyName d) "tuple" = some (isTup d) := by cases d <;> (simp only [tyName, isTup]; decide +kernel)
theorem kit_int (d : PyData) : kitB (tyName d) "int" = some (isInt d) := by cases d <;> (simp only [tyName, isInt]; decide +kernel)
theorem kit_bool (d : PyData) : kitB (tyName d) "bool" = some (isBo d) := by cases d <;> (simp only [tyName, isBo]; decide +kernel)
section
variable {K : PySem.W.Frag} {p : Addr} {H H' : Hp} {v : V} {d : PyData}
theorem Dq.ty (h : Dq K p H v d) : TyX K H v (.type (tyName d)) := by
  cases h with
  | non => exact .base .non
  | bl b => exact .base (.bl b)
  | int i => exact .base (.int i)
  | str x => exact .base (.str x)
  | lst _ _ h _ => exact .base (.lst h)
  | tup h _ =>
    rcases h with (h | ⟨o, h⟩) | ⟨o, _, _, h, c, _⟩
    · exact .base (.tup h)
    · exact .fTuple h
    · exact .kTuple h c
  | emp h => exact .base (.dK h)
theorem DqAll.len : ∀ {vs : List V} {ds : List PyData}, DqAll K p H vs ds → vs.length = ds.length
  | _, _, .nil => rfl
  | _, _, .cons _ h => by rw [List.length_cons, List.length_cons, h.len]
theorem DqAll.mem : ∀ {vs : List V} {ds : List PyData}, DqAll K p H vs ds → ∀ x ∈ vs, ∃ d ∈ ds, Dq K p H x d
  | _, _, .nil, x, hx => nomatch hx
  | _, _, .cons (d := d) h hs, x, hx => by
    rcases List.mem_cons.mp hx with rfl | hx
    · exact ⟨d, List.mem_cons_self, h⟩
    · obtain ⟨e, he, q⟩ := hs.mem x hx
      exact ⟨e, List.mem_cons_of_mem _ he, q⟩
theorem DqAll.append : ∀ {vs ws : List V} {ds es : List PyData}, DqAll K p H vs ds → DqAll K p H ws es → DqAll K p H (vs ++ ws) (ds ++ es)
  | _, _, _, _, .nil, h => h
  | _, _, _, _, .cons a b, h => .cons a (b.append h)
/-- a fraction's data -/
def frd (q : Rat) : PyData := .tuple [.int q.num, .int (q.den : Int)]
theorem Fr.dq {b : Nat} {q : Rat} (h : Fr K b q v H) : Dq K p H v (frd q) := by
  obtain ⟨a, rfl, h, _⟩ := h
  exact .tup h (.cons (.int _) (.cons (.int _) .nil))
theorem Fr.nc {b : Nat} {q : Rat} (h : Fr K b q v H) (h0 : 0 < b) (h1 : b ≤ 1900) : Nc (2 * b + 12) 1 (frd q) := nc_pair h.bd.1 (bd_den h.bd) h0 h1
/-- whether it is a fraction's -/
def frB : PyData → Bool
  | .tuple [.int n, .int m] => decide (0 < m) && decide (Nat.gcd n.natAbs m.natAbs = 1)
  | _ => false
def frQ : PyData → Rat
  | .tuple [.int n, .int m] => Rat.divInt n m
  | _ => 0
theorem divInt_low {n m : Int} (hm : 0 < m) (hg : Nat.gcd n.natAbs m.natAbs = 1) : (Rat.divInt n m).num = n ∧ ((Rat.divInt n m).den : Int) = m := by
  obtain ⟨h1, h2⟩ := low_eq n m (by omega) 1 (by rw [if_neg (by omega)])
  rw [hg] at h1 h2
  constructor
  · rw [← h1]; simp
  · rw [← h2]; simp
theorem frB_frd (q : Rat) : frB (frd q) = true := by
  have := den_pos q
  have h := red q
  simp only [frd, frB, h, decide_true, Bool.and_true, decide_eq_true_eq]
  exact this
theorem frQ_frd (q : Rat) : frQ (frd q) = q := by
  simp only [frd, frQ]
  exact Rat.num_divInt_den q
theorem frB_iff (h : frB d = true) : d = frd (frQ d) := by
  unfold frB at h
  split at h
  · rename_i n m
    rw [Bool.and_eq_true] at h
    obtain ⟨h1, h2⟩ := divInt_low (of_decide_eq_true h.1) (of_decide_eq_true h.2)
    simp only [frd, frQ, h1, h2]
  · cases h
theorem Dq.fr {b : Nat} (h : Dq K p H v d) (hb : frB d = true) (bd : Bd b (frQ d)) : Fr K b (frQ d) v H := by
  have e := frB_iff hb
  generalize frQ d = q at e bd
  subst e
  cases h with
  | tup h hs =>
    cases hs with
    | cons h1 h2 =>
      cases h2 with
      | cons h3 h4 =>
        cases h4
        cases h1
        cases h3
        exact ⟨_, rfl, h, bd⟩
end
end Jf
set_option Elab.async false
set_option linter.all false
set_option maxRecDepth 100000
set_option maxHeartbeats 4000000
namespace Jf
open PySem PySem.Spec PyProof.Rows L2 Evl
/-! ### the end of a law whose def shows data -/
/-- the script, known to its object; else nothing -/
def track (a : Addr) (vs : List Value) (ns : List Int) : Hp := fun b => if b = a then some (.frz { cls := .type "list", data := .seq vs.toArray } (.lst (ns.map V.int))) else none
theorem track_at {a : Addr} {vs : List Value} {ns : List Int} : track a vs ns a = some (.frz { cls := .type "list", data := .seq vs.toArray } (.lst (ns.map V.int))) := if_pos rfl
theorem track_ne {a b : Addr} {vs : List Value} {ns : List Int} (h : b ≠ a) : track a vs ns b = none := if_neg h
/-- what the law's promise is asked at -/
structure Asked (K : PySem.W.Frag) (h : Heap) (a : Addr) (vs : List Value) (ns : List Int) (H : Hp) : Prop where
  known : SqL K H a (ns.map V.int)
  only : ∀ b u, H b = some u → b = a ∧ ∃ o xs, u = .frz o (.lst xs)
  free : ∀ b o, K.lookup b = some o → H b = none
theorem seq_not_dict {h : Heap} {a : Addr} {vs : Array Value} {m : Str → Option Value} (ha : h.get? a = some { cls := .type "list", data := .seq vs }) : ¬ h.Ns a m := by
  rintro ⟨o, es, ep, e, d, _⟩
  rw [ha] at e
  cases e
  cases d
section
variable {P : Program} {w : World} {K : PySem.W.Frag} {mg mb : Str → Option Value} {k : Nat} {fa a : Addr} {fd : FuncData} {x : Str} {sp : Sp} {s₁ : Shared} {vs : List Value} {ns : List Int}
theorem go_law {H : Hp} (S : Asked K s₁.heap a vs ns H) (hok : HOk P w H s₁.heap) (KX : K.In s₁.heap) (hns : s₁.heap.Ns mainGlobals mg) (hb : s₁.heap.Ns builtinsNs mb) (hbb : ∀ x : Str, x ≠ "__name__" → mb x = bootBuiltins x) (hlim : s₁.heap.NoLimit) (hg : s₁.gens = #[])
    (ha : s₁.heap.get? a = some { cls := .type "list", data := .seq vs.toArray }) (hr : Room k callerA)
    (F : ∀ base : Heap, K.In base → base.Ns mainGlobals mg → FnG P w K mg base k fa fd [x] sp) (hbind : ∀ (s : Shared) (u : Value), BindsTo s fd ⟨[u], []⟩ [(x, u)])
    (hsp : sp [.ref a] H (fun v _ => v = .bl true) E0) :
    codeAny (model P w) callerA (.call (.ref fa) ⟨[.ref a], []⟩) (fun r s' => r = .ok (.ret (.bool true)) ∧ PySem.OldK s₁.heap s'.heap ∧ s'.os = s₁.os ∧ AllBare s'.gens) s₁ := by
  have ns_of : ∀ {b : Addr} {m : Str → Option Value}, s₁.heap.Ns b m → (hidT s₁.heap H).Ns b m := by
    intro b m hn
    have hn' := hn
    obtain ⟨o, es, ep, e, r⟩ := hn
    refine ⟨o, es, ep, hidT_get e ?_, r⟩
    cases q : H b with
    | none => rfl
    | some u =>
      obtain ⟨rfl, _⟩ := S.only b u q
      exact absurd hn' (seq_not_dict ha)
  have hKb : K.In (hidT s₁.heap H) := fun b o e => hidT_get (KX b o e) (S.free b o e)
  obtain ⟨mc, l1, l2⟩ := hlim
  have e0 : Env0 P w K mg (hidT s₁.heap H) callerA [] s₁ H := by
    constructor
    · rfl
    · exact ⟨hKb, ns_of hns, ⟨mb, ns_of hb, hbb⟩, ⟨mc, ns_of l1, l2⟩⟩
    · exact fun b o e => of_hidT e
    · exact Nat.le_of_eq (hidT_size _ _)
    · trivial
    · intro b hb
      exact absurd (show b ∈ ([] : List Addr) from hb) (by simp)
    · exact hok
    · exact .of_eq hg
  apply codeAny_mono ((F _ hKb (ns_of hns)).go callerA [] s₁ H ⟨[.ref a], []⟩ [.ref a] [.ref a] _ rfl hr e0 (hbind s₁ (.ref a)) (.cons rfl .nil) hsp)
  intro r s' h
  match r, h with
  | .error _, h => exact False.elim h
  | .ok (.ret u), ⟨v, H', os, bare, un, hok', r', q⟩ =>
    subst q
    obtain rfl : u = Value.bool true := r'
    refine ⟨rfl, PySem.OldK.of_keep ?_, os, bare⟩
    intro b o e
    cases q : H b with
    | none => exact un.keep b o e q (by intro z; exact absurd (show b ∈ ([] : List Addr) from z) (by simp)) (by simp)
    | some u =>
      obtain ⟨rfl, ob, xs, rfl⟩ := S.only b u q
      have q2 := un.frzs b ob _ q
      have e1 := (hok b _ q).1
      have e2 := (hok' b _ q2).1
      rw [e] at e1
      cases e1
      exact e2
theorem law_callG (KX : K.In s₁.heap) (hns : s₁.heap.Ns mainGlobals mg) (hb : s₁.heap.Ns builtinsNs mb) (hbb : ∀ x : Str, x ≠ "__name__" → mb x = bootBuiltins x) (hlim : s₁.heap.NoLimit) (hg : s₁.gens = #[])
    (ha : s₁.heap.get? a = some { cls := .type "list", data := .seq vs.toArray }) (hi : IntsAre vs ns) (hl : ns.length ≤ sizeLine) (hr : Room k callerA)
    (F : ∀ base : Heap, K.In base → base.Ns mainGlobals mg → FnG P w K mg base k fa fd [x] sp) (hbind : ∀ (s : Shared) (u : Value), BindsTo s fd ⟨[u], []⟩ [(x, u)])
    (hsp : ∀ H : Hp, SqL K H a (ns.map V.int) → sp [.ref a] H (fun v _ => v = .bl true) E0) :
    codeAny (model P w) callerA (.call (.ref fa) ⟨[.ref a], []⟩) (fun r s' => r = .ok (.ret (.bool true)) ∧ PySem.OldK s₁.heap s'.heap ∧ s'.os = s₁.os ∧ AllBare s'.gens) s₁ := by
  have rv := vals_ints hi
  cases hk : K.lookup a with
  | some o =>
    have e := KX a o hk
    rw [ha] at e
    cases e
    have known : SqL K (fun _ => none) a (ns.map V.int) := .inr ⟨_, vs.toArray, _, hk, rfl, rfl, rfl, by rw [List.size_toArray, hi.length]; exact hl, by simpa using rv⟩
    exact go_law (H := fun _ => none) ⟨known, (fun _ _ z => nomatch z), (fun _ _ _ => rfl)⟩ (fun _ _ z => nomatch z) KX hns hb hbb hlim hg ha hr F hbind (hsp _ known)
  | none =>
    have known : SqL K (track a vs ns) a (ns.map V.int) := .inl (.inr ⟨_, track_at⟩)
    refine go_law (H := track a vs ns) ⟨known, fun b u z => ?_, fun b o z => track_ne ?_⟩ (fun b u z => ?_) KX hns hb hbb hlim hg ha hr F hbind (hsp _ known)
    · by_cases h : b = a
      · subst h
        rw [track_at] at z
        cases z
        exact ⟨rfl, _, _, rfl⟩
      · rw [track_ne h] at z
        cases z
    · rintro rfl
      rw [hk] at z
      cases z
    · by_cases h : b = a
      · subst h
        rw [track_at] at z
        cases z
        exact ⟨ha, by rw [List.length_map]; exact hl, vs, _, rv, ha⟩
      · rw [track_ne h] at z
        cases z
end
theorem walk_ofG {l : PySem.W.OpenLaw} {n k : Nat} {q : Program} {loose : List Str} {XP : (Str → Option Value) → Heap → Prop} {YP : World → Heap → Prop} {d : DefRec} {K : Params → PySem.W.Frag} {sp : World → Sp} {x : Str}
    (hn : l.most = some n) (hn2 : n ≤ sizeLine) (hdf : d.params.defaults = []) (hr : Room k callerA) (hY : ∀ (w : World) (h : Heap), YP w h → (K w.params).In h)
    (F : ∀ (w : World) (mg : Str → Option Value) (fa : Addr) (h : Heap), (K w.params).In h → h.Ns mainGlobals mg → mg d.name = some (.ref fa) →
      ∃ fd : FuncData, (∀ (s : Shared) (u : Value), BindsTo s fd ⟨[u], []⟩ [(x, u)]) ∧ ∀ base : Heap, (K w.params).In base → base.Ns mainGlobals mg → FnG l.prog w (K w.params) mg base k fa fd [x] (sp w))
    (hsp : ∀ (w : World) (H : Hp) (a : Addr) (ns : List Int), ns.length ≤ n → SqL (K w.params) H a (ns.map V.int) → sp w [.ref a] H (fun v _ => v = .bl true) E0) :
    PySem.W.WalkO q loose XP YP l.row.toRowW d [] (fun f vs => PySem.call f vs) := by
  apply Att.attach_call hn hdf
  intro w s₀ s₁ mg mb fa o pm cd doc a vs ns G Y _ _ _ hmg hobj hints hlen hg
  obtain ⟨fd, hb, hF⟩ := F w mg fa _ (hY w _ Y) G.T.g hmg
  exact law_callG (hY w _ Y) G.T.g G.T.b G.T.builtins G.T.nolimit hg hobj hints (Nat.le_trans hlen hn2) hr hF hb fun H hS => hsp w H a ns hlen hS
end Jf
set_option Elab.async false
set_option linter.all false
set_option maxRecDepth 100000
set_option maxHeartbeats 4000000
namespace PySem.W
open Lean Elab Tactic Meta PySem PySem.Calls PyProof.Rows Builtin Builtin.ObjectAttr Builtin.Getset_descriptor PyProof.V PySem.Spec
section
variable {prog : Program} {w : World} {A : Around} {E : Value → Shared → Prop} {s : Shared} {K : Frag} {x C : Addr} {ox : Obj} {od : Option Obj} {R : Result → Shared → Prop}
/-- e.__class__ for an instance of an exception class of the program, read in an expression -/
theorem jf_classX {gt : Option Value} {expr : Bool} {Q : Value → Shared → Prop} (X : K.In s.heap) (I : InstAt s.heap x ox C od) (hga : findIn K (.ref C) "__getattribute__" = some (some (.builtin "BaseException.__getattribute__"))) (hgt : findIn K (.ref C) "__getattr__" = some gt)
    (hsub : subIn K (.ref C) (.type "BaseException") = some true) (hf : findObj K C od "__class__" = some (.bind (.builtin "getset_descriptor.__get__") (.builtin "object.__class__"))) (hm : mroIn K C (.type "object") = some true)
    (h : Q (.ref C) { s with toks := s.toks + 1 }) : wpAny (model prog w) A (getAttr (.ref x) "__class__" expr) Q E s := by
  obtain ⟨hp, g, d, t, os⟩ := s
  have L0 := I.type (M := model prog w)
  have L1 := looks_findIn (M := model prog w) X hga
  have L2 := looks_findIn (M := model prog w) X hgt
  have L3 := looks_find (M := model prog w) X I hf
  have sub : Looks (model prog w) hp (isInstance (.ref x) (.type "BaseException")) true := L0.andThen (looks_subIn X hsub)
  have hx0 : (expr && onTheHeap (Value.builtin "BaseException.__getattribute__")) = false := by cases expr <;> rfl
  have hx2 : (Value.builtin "BaseException.__getattribute__" == Value.builtin "object.__getattribute__") = false := by decide +kernel
  have hx1 : (onTheHeap (Value.ref C) && Value.builtin "BaseException.__getattribute__" == Value.builtin "object.__getattribute__") = false := by rw [hx2]; rfl
  unfold getAttr getAttrBy
  refine wpAny_bind (wpAny_mkText (wpAny_holding (wpAny_bind (L0.at (wpAny_bind (L1.at ?_))))))
  show wpAny _ _ (if (onTheHeap (Value.ref C) && Value.builtin "BaseException.__getattribute__" == Value.builtin "object.__getattribute__") = true then _ else _) _ _ _
  rw [hx1, if_neg Bool.false_ne_true]
  unfold getAttrByItsOwn hookBefore
  refine wpAny_bind ?_
  rw [if_pos (show onTheHeap (Value.ref C) = true from rfl)]
  refine L2.at ?_
  refine wpAny_bind (wpAny_attempt (wpAny_holding ?_))
  unfold callGetattribute
  rw [hx0, if_neg Bool.false_ne_true]
  unfold boundAndCalled
  rw [PySem.F.excAttr_ValueError.ga.bind (.ref x)]
  refine wpAny_bind (wpAny_pure ?_)
  show wpAny _ _ (call (.builtin "BaseException.__getattribute__") [.ref x, .str "__class__" t]) _ _ _
  refine wpAny_call (codeAny_call_builtin PySem.F.excAttr_ValueError.ga.plain PySem.F.entry_bexc_ga ?_)
  refine @check_slot (model prog w) _ _ ⟨hp, g, d, t + 1, os⟩ "BaseException.__getattribute__" "BaseException" "__getattribute__" (.ref x) [.str "__class__" t] [] _ (by decide +kernel) (by decide +kernel) sub (PySem.F.args_bexc_ga (.ref x) (.str "__class__" t)) ?_
  unfold Builtin.«object.__getattribute__»
  refine wpAny_bind (wpAny_of_eq (a := ((Value.ref x : Value), [Value.str "__class__" t])) (by first | rfl | (simp only [slotArgs]; rfl)) ?_)
  refine wpAny_bind (wpAny_pure (wpAny_bind (L0.at (wpAny_bind (L3.at ?_)))))
  refine wpAny_bind (wpAny_holding (wpAny_call (class_get (s := ⟨hp, g, d, t + 1, os⟩) (ox := ox) (od := od) X I hm ?_)))
  refine wpAny_pure ?_
  show wpAny _ _ (handedOut (.ref C)) _ _ _
  rw [handedOut_of (show handedIn (.ref C) = true from rfl)]
  first | exact wpAny_pure h | exact wpAny_pure (wpAny_pure h)
theorem jf_dga (d tp : Value) (C : Addr) : descrGetArgs ⟨[d, .ref C, tp], []⟩ = pure (d, some (.ref C), given tp) := by rfl
/-- c.__name__, what its slot keeps -/
theorem jf_name_get {tp : Value} {o : Obj} {n : Str} {tk : Tok} (X : K.In s.heap) (ht : typeIn K (.ref C) = some (.type "type")) (hl : K.lookup C = some o) (hs : o.slots[2]? = some (some (.str n tk))) (h : R (.ok (.ret (.str n tk))) s) :
    codeAny (model prog w) A (.call (.builtin "getset_descriptor.__get__") ⟨[.builtin "type.__name__", .ref C, tp], []⟩) R s := by
  obtain ⟨hh, g, dr, t, os⟩ := s
  have L0 : Looks (model prog w) hh (typeOf (.ref C)) (.type "type") := looks_typeIn X ht
  have L1 : Looks (model prog w) hh (isSubtype (.type "type") (.type "type")) true := Looks.of_pure (by rw [isSubtype_type]; kernel_rfl)
  refine codeAny_call_builtin KF.slot_gs.plain KF.entry_gs (KF.slot_gs.check _ _ _ _ _ _ _ _ ktyn_type (KF.args_gs _ _ _) ?_)
  unfold Builtin.«getset_descriptor.__get__» descrGet
  rw [jf_dga]
  refine wpAny_bind (wpAny_pure ?_)
  unfold descrGetter descrCheckInstance descrNameAndClass isInstance
  simp only [ktyn_owner]
  repeat lk
  refine ⟨Code.quiet_builtin _ (by decide +kernel), codeAny_builtin ktyn_entry ?_⟩
  unfold Builtin.«type.__name__»
  dsimp only
  unfold Builtin.keptObject slotAt
  dsimp only
  refine wpAny_bind (wpAny_bind (wpAny_bind (wpAny_loadPart (X _ _ hl) ?_)))
  refine wpAny_pure (wpAny_pure ?_)
  rw [hs]
  exact wpAny_pure h
end
end PySem.W
namespace Jf
open PySem PySem.Spec PyProof.Rows L2 Evl
/-- what is asked of a class, so that its name is read -/
structure NmC (K : PySem.W.Frag) (C : Addr) (nm : Str) : Prop where
  ga : PySem.W.findIn K (.ref C) "__getattribute__" = some (some (.builtin "BaseException.__getattribute__"))
  gg : PySem.W.findIn K (.ref C) "__getattr__" = some none
  ex : PySem.W.subIn K (.ref C) (.type "BaseException") = some true
  cl : (PySem.W.clsIn K C).isSome = true
  kc : PySem.W.findIn K (.ref C) "__class__" = some (some (.builtin "object.__class__"))
  sp : PySem.W.specialIn K (.builtin "object.__class__") "__get__" = some (some (.builtin "getset_descriptor.__get__"))
  tk : PySem.W.takesIn K (.builtin "object.__class__") = some true
  mo : PySem.W.mroIn K C (.type "object") = some true
  rd : PySem.W.readsIn K C (.type "type") = true
  fd : PySem.W.findCls K (.ref C) (.type "type") "__name__" = some (.get (.builtin "getset_descriptor.__get__") (.builtin "type.__name__") (.ref C) (.type "type"))
  ty : PySem.W.typeIn K (.ref C) = some (.type "type")
  sl : ∃ o t, K.lookup C = some o ∧ o.slots[2]? = some (some (.str nm t))
/-- e.__class__.__name__ -/
def tNm (K : PySem.W.Frag) (te : TE) : TE := fun σ H Q => te σ H fun x H1 => ∃ (a C dx : Addr) (fs : List (Str × V)) (nm : Str), x = .ref a ∧ NmC K C nm ∧ H1 a = some (exo a C (some dx)) ∧ H1 dx = some (exd dx fs) ∧ Q (.str nm) H1
theorem pe_nm {X : Cx} {e : Expr} {te : TE} {p1 pos : Pos} (he : PE X e te) (hb1 : attributeBase e "__class__" X.env (eval e X.env) = eval e X.env := by rfl)
    (hb : attributeBase (.Attribute e "__class__" p1) "__name__" X.env (eval (.Attribute e "__class__" p1) X.env) = eval (.Attribute e "__class__" p1) X.env := by rfl) : PE X (.Attribute (.Attribute e "__class__" p1) "__name__" pos) (tNm X.K te) := by
  refine ⟨fun pins s σ H Q I h => ?_⟩
  refine attr_of hb (attr_of hb1 (thn (he.run pins s σ H _ I h) fun u s1 hh => ?_))
  obtain ⟨x, H1, I1, rx, a, C, dx, fs, nm, ex, T, ea, ed, q⟩ := hh
  subst ex
  obtain rfl : u = Value.ref a := rx
  obtain ⟨t1, ho⟩ := exo_at I1.hok ea
  obtain ⟨mA, hns, hr⟩ := exd_at I1.hok ed
  obtain ⟨od, hod, hl⟩ := lookIn_ns hns
  have J : PySem.W.InstAt s1.heap a { cls := .ref C, dict := some dx, data := .fields #[.ref t1, .none, .none, .none, .bool false, .none] } C (some od) := ⟨ho, rfl, rfl, hod⟩
  refine PySem.W.jf_classX I1.kIn J T.ga T.gg T.ex (PySem.W.findObj_dataE T.cl T.kc T.sp T.tk) T.mo ?_
  obtain ⟨o, t, e1, e2⟩ := T.sl
  have I2 := I1.tok (s1.toks + 1)
  have I3 := I1.tok (s1.toks + 1 + 1)
  refine PySem.W.cls_bind (s := { s1 with toks := s1.toks + 1 }) I2.kIn T.rd T.fd (wpAny_call (PySem.W.jf_name_get (s := { s1 with toks := s1.toks + 1 + 1 }) I3.kIn T.ty e1 e2 ?_))
  refine PySem.W.handed_on rfl ?_
  exact ⟨.str nm, H1, I3, ⟨t, rfl⟩, q⟩
end Jf
set_option Elab.async false
set_option linter.all false
set_option maxRecDepth 100000
set_option maxHeartbeats 4000000
namespace Jf
open PySem PySem.Spec PyProof.Rows L2 Evl
/-! ### error classes right under one class over ValueError, each with an `__init__` of its own that calls that one's -/
def clsOk (K : PySem.W.Frag) (C CM : Addr) (nm : Str) : Bool := match K.lookup C with
  | some ⟨.type "type", _, .cls cd, sl⟩ => (match sl.toList with
    | [_, _, _, _, some (.builtin n), _] => decide (n = "ValueError.__new__") && (decide (cd.name = nm) && (decide (cd.mro = [.ref C, .ref CM, .type "ValueError", .type "Exception", .type "BaseException", .type "object"]) && (decide (cd.hasDict = true) && decide (cd.hasDel = false))))
    | _ => false)
  | _ => false
/-- its name is read -/
def fdB (K : PySem.W.Frag) (C : Addr) : Bool := match PySem.W.findCls K (.ref C) (.type "type") "__name__" with
  | some (.get (.builtin g) (.builtin a) (.ref D) (.type t)) => decide (g = "getset_descriptor.__get__") && (decide (a = "type.__name__") && (decide (D = C) && decide (t = "type")))
  | _ => false
def slB (K : PySem.W.Frag) (C : Addr) (nm : Str) : Bool := match K.lookup C with
  | some o => (match o.slots[2]? with
    | some (some (Value.str n _)) => decide (n = nm)
    | _ => false)
  | none => false
def nmB (K : PySem.W.Frag) (C : Addr) (nm : Str) : Bool := PySem.W.readsIn K C (.type "type") && (fdB K C && (slB K C nm && decide (PySem.W.findIn K (.ref C) "kind" = some none)))
theorem fd_ok {K : PySem.W.Frag} {C : Addr} (h : fdB K C = true) : PySem.W.findCls K (.ref C) (.type "type") "__name__" = some (.get (.builtin "getset_descriptor.__get__") (.builtin "type.__name__") (.ref C) (.type "type")) := by
  unfold fdB at h
  split at h
  · rename_i g a D t e
    simp only [Bool.and_eq_true, decide_eq_true_eq] at h
    obtain ⟨rfl, rfl, rfl, rfl⟩ := h
    exact e
  · cases h
theorem sl_ok {K : PySem.W.Frag} {C : Addr} {nm : Str} (h : slB K C nm = true) : ∃ o t, K.lookup C = some o ∧ o.slots[2]? = some (some (.str nm t)) := by
  unfold slB at h
  split at h
  · rename_i o e
    split at h
    · rename_i n t e2
      simp only [decide_eq_true_eq] at h
      subst h
      exact ⟨o, t, e, e2⟩
    · cases h
  · cases h
/-- all that is asked of a class, as one truth -/
def errB (K : PySem.W.Frag) (C CM f : Addr) (nm : Str) : Bool :=
  nmB K C nm && (clsOk K C CM nm && (decide (PySem.W.findIn K (.ref C) "__setattr__" = some (some (.builtin "object.__setattr__"))) && (decide (PySem.W.subIn K (.ref C) (.type "BaseException") = some true) && (decide (PySem.W.typeIn K (.ref C) = some (.type "type")) &&
  (PySem.W.keepIn K (.ref C) && (decide (PySem.W.findIn K (.ref C) "__init__" = some (some (.ref f))) && (decide (PySem.W.typeIn K (.ref f) = some (.type "function")) && (decide (PySem.W.findIn K (.ref C) "value" = some none) &&
  (decide (PySem.W.findIn K (.ref C) "__getattribute__" = some (some (.builtin "BaseException.__getattribute__"))) && (decide (PySem.W.findIn K (.ref C) "__getattr__" = some none) && (PySem.W.hasDictIn K C &&
  (decide (PySem.W.findIn K (.ref C) "__class__" = some (some (.builtin "object.__class__"))) && (decide (PySem.W.specialIn K (.builtin "object.__class__") "__get__" = some (some (.builtin "getset_descriptor.__get__"))) && (decide (PySem.W.takesIn K (.builtin "object.__class__") = some true) &&
  (decide (PySem.W.mroIn K C (.type "object") = some true) && (decide (PySem.W.exmOne K (.ref C) (.ref CM) = some true) && !(C == CM)))))))))))))))))
structure ErrX (K : PySem.W.Frag) (C CM f : Addr) (nm : Str) : Prop where
  oex : OexC K C
  i : PySem.W.findIn K (.ref C) "__init__" = some (some (.ref f))
  t : PySem.W.typeIn K (.ref f) = some (.type "function")
  noV : PySem.W.findIn K (.ref C) "value" = some none
  ec : ErrC K C
  xf : XfC K C
  named : ∃ cd, PySem.W.clsIn K C = some cd ∧ cd.name = nm ∧ cd.mro = [.ref C, .ref CM, .type "ValueError", .type "Exception", .type "BaseException", .type "object"]
  exm : PySem.W.exmOne K (.ref C) (.ref CM) = some true
  ty : PySem.W.typeIn K (.ref C) = some (.type "type")
  neM : C ≠ CM
  nm : NmC K C nm
  noK : PySem.W.findIn K (.ref C) "kind" = some none
theorem cls_ok {K : PySem.W.Frag} {C CM : Addr} {nm : Str} (h : clsOk K C CM nm = true) : (∃ q N bs bm sn sub ab col dd k0 k1 k2 k3 k5, K.lookup C = some (excClassObj nm q C N bs bm true sn sub ab col dd k0 k1 k2 k3 k5 "ValueError.__new__") ∧ PySem.HandSPX.refsVE bm = true) ∧
    ∃ cd, PySem.W.clsIn K C = some cd ∧ cd.name = nm ∧ cd.mro = [.ref C, .ref CM, .type "ValueError", .type "Exception", .type "BaseException", .type "object"] := by
  unfold clsOk at h
  split at h
  · rename_i dd cd sl ho
    split at h
    · rename_i k0 k1 k2 k3 n k5 hs
      simp only [Bool.and_eq_true, decide_eq_true_eq] at h
      obtain ⟨rfl, h1, h2, h3, h4⟩ := h
      obtain ⟨nm', bs, mro, ns, qn, hd, sn, sub, ab, col, del⟩ := cd
      dsimp only at h1 h2 h3 h4
      subst h1 h2 h3 h4
      have hsl : sl = #[k0, k1, k2, k3, some (.builtin "ValueError.__new__"), k5] := by
        obtain ⟨l⟩ := sl
        simp only at hs
        rw [hs]
      subst hsl
      exact ⟨⟨qn, ns, bs, [.ref CM, .type "ValueError", .type "Exception", .type "BaseException", .type "object"], sn, sub, ab, col, dd, k0, k1, k2, k3, k5, ho, rfl⟩, _, by unfold PySem.W.clsIn; rw [ho], rfl, rfl⟩
    · cases h
  · cases h
theorem err_ok {K : PySem.W.Frag} {C CM f : Addr} {nm : Str} (h : errB K C CM f nm = true) : ErrX K C CM f nm := by
  unfold errB at h
  simp only [Bool.and_eq_true, decide_eq_true_eq, Bool.not_eq_true', beq_eq_false_iff_ne] at h
  obtain ⟨h0, h1, sa, ex, ty, kp, hi, ht, nv, ga, gg, hd, kc, sp, tk, mo, em, nM⟩ := h
  obtain ⟨⟨q, N, bs, bm, sn, sub, ab, col, dd, k0, k1, k2, k3, k5, hl, hr⟩, cd, hc, hn, hm⟩ := cls_ok h1
  unfold nmB at h0
  simp only [Bool.and_eq_true, decide_eq_true_eq] at h0
  refine ⟨⟨⟨nm, q, N, bs, bm, sn, sub, ab, col, dd, k0, k1, k2, k3, k5, hl, hr⟩, sa, ex, ty, kp⟩, hi, ht, nv, ⟨by rw [hc]; rfl, ga, gg, ex, hd, kc, sp, tk, mo⟩, ⟨ga, gg, ex, hd⟩, ⟨cd, hc, hn, hm⟩, em, ty, nM, ?_, ?_⟩
  · exact ⟨ga, gg, ex, by rw [hc]; rfl, kc, sp, tk, mo, h0.1, fd_ok h0.2.1, ty, sl_ok h0.2.2.1⟩
  · exact h0.2.2.2
section
variable {K : PySem.W.Frag} {C D CM f g : Addr} {nm nk : Str}
theorem kit_one (C : Addr) : PySem.W.kitOne K (.ref C) (.ref C) = some true := by
  unfold PySem.W.kitOne
  rw [if_pos (by simp)]
theorem ErrX.ne (a : ErrX K C CM f nm) (b : ErrX K D CM g nk) (h : nm ≠ nk) : C ≠ D := by
  rintro rfl
  obtain ⟨cd, h1, h2, _⟩ := a.named
  obtain ⟨ce, h3, h4, _⟩ := b.named
  rw [h1] at h3
  cases h3
  exact h (h2.symm.trans h4)
/-- isinstance by another of them -/
theorem ErrX.other (a : ErrX K C CM f nm) (b : ErrX K D CM g nk) (h : nm ≠ nk) : PySem.W.kitOne K (.ref C) (.ref D) = some false := by
  have n := a.ne b h
  obtain ⟨cd, h1, h2, h3⟩ := a.named
  obtain ⟨ce, h4, _, _⟩ := b.named
  unfold PySem.W.kitOne PySem.W.kitCls
  rw [if_neg (by simpa using n)]
  dsimp only
  rw [if_pos (by rw [h4, b.ty]; rfl)]
  show PySem.W.mroIn K C (.ref D) = some false
  unfold PySem.W.mroIn
  rw [h1, Option.bind_some, h3]
  simp [n.symm, b.neM]
theorem ErrX.off (a : ErrX K C CM f nm) (b : ErrX K D CM g nk) (n : C ≠ D) : PySem.W.kitOne K (.ref C) (.ref D) = some false := by
  obtain ⟨cd, h1, h2, h3⟩ := a.named
  obtain ⟨ce, h4, _, _⟩ := b.named
  unfold PySem.W.kitOne PySem.W.kitCls
  rw [if_neg (by simpa using n)]
  dsimp only
  rw [if_pos (by rw [h4, b.ty]; rfl)]
  show PySem.W.mroIn K C (.ref D) = some false
  unfold PySem.W.mroIn
  rw [h1, Option.bind_some, h3]
  simp [n.symm, b.neM]
theorem ErrX.self1 (a : ErrX K C CM f nm) : PySem.W.exmOne K (.ref C) (.ref C) = some true := by
  obtain ⟨cd, h1, h2, h3⟩ := a.named
  refine PySem.W.exm_ref a.ec.ex a.ec.hd a.ty ?_
  show PySem.W.mroIn K C (.ref C) = some true
  unfold PySem.W.mroIn
  rw [h1, Option.bind_some, h3]
  simp
theorem ErrX.base (a : ErrX K C CM f nm) : PySem.W.kitOne K (.ref C) (.ref CM) = some true := by
  have e := a.exm
  unfold PySem.W.exmOne at e
  split at e
  · unfold PySem.W.kitOne
    split
    · rfl
    · exact e
  · cases e
theorem ErrX.ve (a : ErrX K C CM f nm) : PySem.W.kitOne K (.ref C) (.type "ValueError") = some true := by
  obtain ⟨cd, h1, h2, h3⟩ := a.named
  unfold PySem.W.kitOne PySem.W.kitCls
  rw [if_neg (by simp)]
  dsimp only
  rw [if_pos (by decide +kernel)]
  show PySem.W.mroIn K C (.type "ValueError") = some true
  unfold PySem.W.mroIn
  rw [h1, Option.bind_some, h3]
  simp
theorem ErrX.self (a : ErrX K C CM f nm) (b : ErrX K D CM g nk) (h : nm = nk) (e : C = D) : PySem.W.kitOne K (.ref C) (.ref D) = some true := e ▸ kit_one C
end
/-- what such an error keeps -/
def kd (k : Str) (v : V) : List (Str × V) := [(("kind" : Str), .str k), (("value" : Str), v)]
/-- the object made of a class, its value kept -/
def ErrAt (K : PySem.W.Frag) (C : Addr) (v : V) (x : V) (H : Hp) : Prop := ∃ a dx k, x = .ref a ∧ H a = some (exo a C (some dx)) ∧ H dx = some (exd dx (kd k v))

/-! ### making one, as a value -/
def spInit (C : Addr) : Sp := fun vs H Q _ => ∃ (a : Addr) (v : V), vs = [.ref a, v] ∧ H a = some (exo a C none) ∧
  ∀ dx k H', H dx = none → dx ≠ a → H' a = some (exo a C (some dx)) → H' dx = some (exd dx (kd k v)) → (∀ b o, b ≠ a → H b = some o → H' b = some o) → Q .non H'
/-- .. of any of those classes -/
def spInitM (K : PySem.W.Frag) : Sp := fun vs H Q _ => ∃ (C a : Addr) (v : V) (nm : Str), vs = [.ref a, v] ∧ OexC K C ∧ PySem.W.findIn K (.ref C) "value" = some none ∧ PySem.W.findIn K (.ref C) "kind" = some none ∧ NmC K C nm ∧ H a = some (exo a C none) ∧
  ∀ dx k H', H dx = none → dx ≠ a → H' a = some (exo a C (some dx)) → H' dx = some (exd dx (kd k v)) → (∀ b o, b ≠ a → H b = some o → H' b = some o) → Q .non H'
def tMkV (C : Addr) (sp : Sp) (ta : TA) : TE := fun σ H Q => ta σ H fun vs H1 => vs.length ≤ 1000 ∧ ∀ a, H1 a = none → sp (.ref a :: vs) (upd H1 a (exo a C none)) (fun v H2 => v = .non ∧ Q (.ref a) H2) (fun _ _ _ => False)
section
variable {X : Cx} {e : Expr} {es : List Expr} {ta : TA} {x m : Str} {p p1 p2 pos : Pos} {k : Nat} {fd : FuncData} {ps : List Str} {sp : Sp}
/-- C(e, ..) -/
theorem pe_mkv {CX : CXT} {C fI : Addr} (T : OexC X.K C) (iC : PySem.W.findIn X.K (.ref C) "__init__" = some (some (.ref fI))) (tI : PySem.W.typeIn X.K (.ref fI) = some (.type "function"))
    (F1 : FnOk X.prog X.w X.K X.mg X.base CX k fI fd ps sp) (hr : Room (k + 1) X.A) (hb : Binds X.K fd ps []) (hx : Passes CX X (fun _ _ _ => False)) (hg : Gl X x) (hm : X.mg x = some (.ref C)) (ha : PA X (e :: es) ta)
    (hdb : (x == ("__debug__" : Str)) = false := by decide) (he : starEach (e :: es) X.env = (false, eval e X.env) :: starEach es X.env := by rfl) (hpl : (backTo pos (starEach es X.env)).any (·.1) = false := by rfl) :
    PE X (.Call (.Name x p) (e :: es) [] pos) (tMkV C sp ta) := by
  refine ⟨fun pins s σ H Q I h => ?_⟩
  obtain ⟨nm, q, N, bs, bm, sn, sub, ab, col, dd, k0, k1, k2, k3, k5, hC, hbm⟩ := T.cls
  refine wpAny_Call_Name_kw (ld_glob I hg hm ?_ hdb)
  refine PySem.W.callWith_K (h₀ := X.base) I.ok.mod.kin T.kC (thn (ha.run pos pins s σ H _ I h) fun us s1 ⟨vs, H1, I1, r1, hz, q1⟩ => ⟨I1.kIn, ?_⟩) he hpl
  show wpAny _ _ (call (.ref C) us) _ _ _
  obtain ⟨hp, g, dr, tk, os⟩ := s1
  have hsz : hp.objs.size ≤ hp.objs.size + 1 := Nat.le_succ _
  have hn : H1 (hp.objs.size + 1) = none := I1.hok.fresh hsz
  have hq := q1 (hp.objs.size + 1) hn
  have kk : ∀ b o, hp.get? b = some o → ((hp.push (PySem.W.kdv_tup us)).push (PySem.HandSPX.excO C hp.objs.size)).get? b = some o := fun b o e => Heap.get?_push_of_some _ (Heap.get?_push_of_some _ e)
  have hget : ((hp.push (PySem.W.kdv_tup us)).push (PySem.HandSPX.excO C hp.objs.size)).get? (hp.objs.size + 1) = some (PySem.HandSPX.excO C hp.objs.size) := by heap_get
  have I2 : Inv X pins σ (upd H1 (hp.objs.size + 1) (exo (hp.objs.size + 1) C none)) ⟨(hp.push (PySem.W.kdv_tup us)).push (PySem.HandSPX.excO C hp.objs.size), g, dr, tk, os⟩ :=
    I1.laid (t' := tk) (a := hp.objs.size + 1) (o := exo (hp.objs.size + 1) C none) (h' := (hp.push (PySem.W.kdv_tup us)).push (PySem.HandSPX.excO C hp.objs.size)) kk hsz (exo_ok hget)
  have r2 : Vals (V.ref (hp.objs.size + 1) :: vs) (Value.ref (hp.objs.size + 1) :: us) := .cons rfl r1
  have hl : (Value.ref (hp.objs.size + 1) :: us ++ []).length = ps.length := by
    have e := r2.length
    rw [F1.len _ _ _ _ hq] at e
    rw [List.append_nil]
    exact e.symm
  have hus : us.length ≤ sizeLine := by
    rw [← Paired.length r1, sizeLine_eq]
    omega
  have hb2 := hb _ (Value.ref (hp.objs.size + 1) :: us) I2.kIn hl
  rw [List.append_nil] at hb2
  refine wpAny_call (PySem.HandSPX.call_own F.excBase_ValueError (fun Y => PySem.HandSPX.refsVE_contains Y bm hbm) (I1.kIn _ _ hC) (PySem.W.looks_findIn I1.kIn iC) (fun self => PySem.W.bind_fn I1.kIn self tI) hus
    (codeAny_mono (F1.run _ X.stack _ _ ⟨Value.ref (hp.objs.size + 1) :: us, []⟩ (Value.ref (hp.objs.size + 1) :: us) _ _ (fun _ _ _ => False) (hr.make C us []) (I2.env0.make C us []) hb2 r2 hq) fun r s' hq' => ?_))
  cases r with
  | error er => exact hx pins σ _ _ er s' I2 hq'
  | ok fl =>
    cases fl with
    | ret u =>
      obtain ⟨v, H2, os2, bare2, un2, hok2, rv, ev, q2⟩ := hq'
      subst ev
      obtain ⟨h2, g2, d2, t2, os'⟩ := s'
      exact ⟨rv, .ref (hp.objs.size + 1), H2, I2.call' (ch := []) os2 un2 hok2 bare2 (fun b z => absurd z (by simp)), rfl, q2⟩
    | next => exact False.elim hq'
    | brk => exact False.elim hq'
    | cont => exact False.elim hq'
/-- C.m(e, ..), m a def of the class C itself -/
theorem pe_clsdef {CX : CXT} {C f : Addr} {mc : Value} {E : XK} {pl : Sem Bool} (hg : Gl X x) (hm : X.mg x = some (.ref C)) (rd : PySem.W.readsIn X.K C mc = true) (ga : PySem.W.specialIn X.K (.ref C) "__getattribute__" = some (some (.builtin "type.__getattribute__")))
    (fi : PySem.W.findCls X.K (.ref C) mc m = some (.val (.ref f))) (hk : PySem.W.keepIn X.K (.ref f) = true) (F1 : FnOk X.prog X.w X.K X.mg X.base CX k f fd ps sp) (hr : Room k X.A) (hb : Binds X.K fd ps []) (hx : Passes CX X E) (ha : PA X (e :: es) ta)
    (hdb : (x == ("__debug__" : Str)) = false := by decide)
    (hc : eval (.Call (.Attribute (.Name x p1) m p2) (e :: es) [] pos) X.env = (do
      let ov ← eval (.Name x p1) X.env
      standAt p2.atName
      let (f, first) ← holding [ov] (getMethod ov m pl)
      callWith pos f first (backTo pos (starEach (e :: es) X.env)) (backToKw pos (keywordEach [] X.env))) := by rfl)
    (he : starEach (e :: es) X.env = (false, eval e X.env) :: starEach es X.env := by rfl) (hpl : (backTo pos (starEach es X.env)).any (·.1) = false := by rfl) :
    PE X (.Call (.Attribute (.Name x p1) m p2) (e :: es) [] pos) (tCall sp [] E ta) := by
  refine ⟨fun pins s σ H Q I h => ?_⟩
  refine PySem.W.methodCall_KW (ld_glob I hg hm ?_ hdb) hc
  refine PySem.W.method_cls I.kIn ga (PySem.W.cls_value I.kIn rd fi rfl ?_)
  show wpAny _ _ (callWith pos (Value.ref f) [] (backTo pos (starEach (e :: es) X.env)) []) _ _ _
  refine PySem.W.callWith_K (h₀ := X.base) I.ok.mod.kin hk (thn (ha.run pos pins _ σ H _ (I.tok _) h) fun us s1 ⟨vs, H1, I1, r, q⟩ => ⟨I1.kIn, ?_⟩) he hpl
  exact run_fn F1 hr hb .nil hx I1 r q
end
/-! ### what is asked of such an object -/
/-- isinstance(e, c) -/
def rIsX (K : PySem.W.Frag) : List V → Hp → VK → Prop := fun xs H Q => ∃ (a C dd : Addr) (fs : List (Str × V)) (c : V) (cv : Value) (b : Bool), xs = [.ref a, c] ∧ (∀ u, RelV c u → u = cv) ∧ ErrC K C ∧ H a = some (exo a C (some dd)) ∧ H dd = some (exd dd fs) ∧ PySem.W.kitOne K (.ref C) cv = some b ∧ Q (.bl b) H
theorem call_isX {X : Cx} : CallR X (.builtin "isinstance") (rIsX X.K) := by
  intro pins s σ H xs us Q I r h
  obtain ⟨a, C, dd, fs, c, cv, b, rfl, hcv, T, ea, ed, hk, q⟩ := h
  cases r with
  | cons rx rr =>
    cases rr with
    | cons rt rr =>
      cases rr
      cases rx
      have ec := hcv _ rt
      subst ec
      obtain ⟨t1, ho⟩ := exo_at I.hok ea
      obtain ⟨mA, hns, rel⟩ := exd_at I.hok ed
      obtain ⟨od, hod, _⟩ := lookIn_ns hns
      have J : PySem.W.InstAt s.heap a { cls := .ref C, dict := some dd, data := .fields #[.ref t1, .none, .none, .none, .bool false, .none] } C (some od) := ⟨ho, rfl, rfl, hod⟩
      refine PySem.W.kia_one (PySem.W.kitx_exc T.cl T.ga T.gg T.ex T.kc T.sp T.tk T.mo) I.kIn J hk (fun z => nomatch z) ?_
      intro tk
      exact ⟨.bl b, H, I.kept (t' := tk) fun _ _ z => z, rfl, q⟩
/-- e.f -/
def tXo (K : PySem.W.Frag) (f : Str) (te : TE) : TE := fun σ H Q => te σ H fun x H1 => ∃ (a C dd : Addr) (fs : List (Str × V)) (v : V), x = .ref a ∧ XfC K C ∧ PySem.W.findIn K (.ref C) f = some none ∧ H1 a = some (exo a C (some dd)) ∧ H1 dd = some (exd dd fs) ∧ fs.lookup f = some v ∧ Q v H1
theorem pe_xo {X : Cx} {e : Expr} {te : TE} {pos : Pos} {n : Str} (he : PE X e te) (hb : attributeBase e n X.env (eval e X.env) = eval e X.env := by rfl) : PE X (.Attribute e n pos) (tXo X.K n te) := by
  refine ⟨fun pins s σ H Q I h => ?_⟩
  refine attr_of hb (thn (he.run pins s σ H _ I h) fun u s1 hh => ?_)
  obtain ⟨x, H1, I1, rx, a, C, dd, fs, v, ex, T, hno, ea, ed, l, q⟩ := hh
  subst ex
  obtain rfl : u = Value.ref a := rx
  obtain ⟨t1, ho⟩ := exo_at I1.hok ea
  obtain ⟨mA, hns, hr⟩ := exd_at I1.hok ed
  obtain ⟨od, hod, hl⟩ := lookIn_ns hns
  obtain ⟨u, hu, ru⟩ := RelO.some_of (v := v) (o := mA n) (by rw [← l]; exact hr n)
  have J : PySem.W.InstAt s1.heap a { cls := .ref C, dict := some dd, data := .fields #[.ref t1, .none, .none, .none, .bool false, .none] } C (some od) := ⟨ho, rfl, rfl, hod⟩
  exact HandSPX.exc_get I1.kIn J T.ga T.gg T.exC (PySem.W.findObj_own T.hdC hno rfl (by rw [hl, hu])) (handed_of ru) ⟨v, H1, I1.tok _, ru, q⟩
/-! ### the class of all of them -/
def baseB (K : PySem.W.Frag) (C f : Addr) : Bool := PySem.W.readsIn K C (.type "type") && (decide (PySem.W.specialIn K (.ref C) "__getattribute__" = some (some (.builtin "type.__getattribute__"))) && PySem.W.keepIn K (.ref f))
/-- how the class of all of them stands -/
structure BaseK (K : PySem.W.Frag) (mg : Str → Option Value) (nm q : Str) (st : Stmt) where
  C : Addr
  f : Addr
  fd : FuncData
  g : mg nm = some (.ref C)
  F : Fun K "__init__" q st f fd
  b : Binds K fd ["self", "value"] []
  rd : PySem.W.readsIn K C (.type "type") = true
  ga : PySem.W.specialIn K (.ref C) "__getattribute__" = some (some (.builtin "type.__getattribute__"))
  fi : PySem.W.findCls K (.ref C) (.type "type") "__init__" = some (.val (.ref f))
  kp : PySem.W.keepIn K (.ref f) = true
/-- how one of them stands -/
structure ErrK (K : PySem.W.Frag) (mg : Str → Option Value) (nm q : Str) (CM : Addr) (st : Stmt) where
  C : Addr
  f : Addr
  fd : FuncData
  g : mg nm = some (.ref C)
  F : Fun K "__init__" q st f fd
  b : Binds K fd ["self", "value"] []
  x : ErrX K C CM f nm
theorem base_ok {K : PySem.W.Frag} {C f : Addr} (h : baseB K C f = true) : PySem.W.readsIn K C (.type "type") = true ∧ PySem.W.specialIn K (.ref C) "__getattribute__" = some (some (.builtin "type.__getattribute__")) ∧ PySem.W.keepIn K (.ref f) = true := by
  unfold baseB at h
  simp only [Bool.and_eq_true, decide_eq_true_eq] at h
  exact h
/-! ### list.count of truths -/
def eqb (k : Bool) (v : Value) : Bool := match v with
  | .bool n => n == k
  | _ => false
def rCntB (K : PySem.W.Frag) : V → List V → Hp → VK → Prop := fun x xs H Q => ∃ (p : Addr) (ns : List Bool) (k : Bool), x = .ref p ∧ xs = [.bl k] ∧ SqL K H p (ns.map V.bl) ∧ Q (.int (ns.count k : Nat)) H
theorem vals_bl : ∀ {ns : List Bool} {us : List Value}, Vals (ns.map V.bl) us → us = ns.map Value.bool
  | [], us, r => by cases r; rfl
  | n :: ns, us, r => by
    cases r with
    | cons h r2 =>
      have e := vals_bl r2
      rw [e]
      cases (show _ = Value.bool n from h)
      rfl
theorem eqb_count (k : Bool) : ∀ ns : List Bool, (ns.map Value.bool).countP (eqb k) = ns.count k
  | [] => rfl
  | n :: ns => by
    rw [List.map_cons, List.countP_cons, List.count_cons, eqb_count k ns]
    rfl
theorem mt_bcount {X : Cx} : MtR X "list.count" (rCntB X.K) := by
  intro pins s σ H x xs v us Q I rx rxs h
  obtain ⟨p, ns, k, rfl, rfl, hs, q⟩ := h
  cases rx
  obtain ⟨u, rfl, ru⟩ := rxs.one
  obtain rfl : u = Value.bool k := ru
  obtain ⟨its, rv, ⟨⟨cls, dd, data, sl⟩, n, ho, hc, hdn, hd⟩, hlen⟩ := I.list hs
  simp only at hc hd
  subst hc hd
  have hi := vals_bl rv
  subst hi
  refine call_meets PySem.F.slot_list_count ⟨_, ho, rfl⟩ PySem.F.entry_list_count (PySem.F.args_list_count_2 _ _)
    (SeqAt.list_countAt p (ns.map Value.bool).toArray n dd sl (.bool k) (eqb k)) ⟨ho, fun y hy => ?_, ?_⟩
  · have hy' : y ∈ ns.map Value.bool := by simpa using hy
    obtain ⟨b, _, rfl⟩ := List.mem_map.mp hy'
    exact SeqAt.EqAt.bool_bool b k
  have ec : (ns.map Value.bool).toArray.toList.countP (eqb k) = ns.count k := eqb_count k ns
  refine ⟨.int (ns.count k : Nat), H, I.tok _, ⟨s.toks, ?_⟩, q⟩
  show Value.int (((ns.map Value.bool).toArray.toList.countP (eqb k) : Nat) : Int) s.toks = Value.int ((ns.count k : Nat) : Int) s.toks
  rw [ec]
end Jf
set_option Elab.async false
set_option linter.all false
set_option maxRecDepth 100000
set_option maxHeartbeats 4000000
namespace Jf
open PySem PySem.Spec PyProof.Rows L2 Evl
/-! ### the text -/
def topS (i : Nat) : Stmt := PySem.Challenge.pw_onenumber_k01_fractions.main.body.getD i (.Pass ⟨0, 0, 0, 0⟩)
abbrev s_is_whole : Stmt := topS 6
abbrev n_is_whole : List Str := ["value"]
abbrev s_is_fraction : Stmt := topS 7
abbrev n_is_fraction : List Str := ["value", "top", "bottom"]
abbrev s_require_fraction : Stmt := topS 8
abbrev n_require_fraction : List Str := ["value"]
abbrev s_require_whole : Stmt := topS 9
abbrev n_require_whole : List Str := ["value"]
abbrev s_lowest : Stmt := topS 10
abbrev n_lowest : List Str := ["top", "bottom", "common"]
abbrev s_add : Stmt := topS 11
abbrev n_add : List Str := ["one", "other"]
abbrev s_subtract : Stmt := topS 12
abbrev n_subtract : List Str := ["one", "other"]
abbrev s_multiply : Stmt := topS 13
abbrev n_multiply : List Str := ["one", "other"]
abbrev s_divide : Stmt := topS 14
abbrev n_divide : List Str := ["one", "other"]
abbrev s_fraction : Stmt := topS 15
abbrev n_fraction : List Str := ["top", "bottom"]
abbrev s_plus : Stmt := topS 16
abbrev n_plus : List Str := ["one", "other"]
abbrev s_minus : Stmt := topS 17
abbrev n_minus : List Str := ["one", "other"]
abbrev s_times : Stmt := topS 18
abbrev n_times : List Str := ["one", "other"]
abbrev s_over : Stmt := topS 19
abbrev n_over : List Str := ["one", "other"]
abbrev s_compare : Stmt := topS 20
abbrev n_compare : List Str := ["one", "other", "excess"]
abbrev s__law_spread : Stmt := topS 22
abbrev n__law_spread : List Str := ["_law_cell", "_law_at", "_law_primes", "_law_mixed", "_law_one_here", "_law_rest", "_law_two", "_law_three"]
abbrev s__law_open : Stmt := topS 23
abbrev n__law_open : List Str := ["_law_script", "_law_cells", "_law_k", "_law_cell"]
abbrev s__law_take : Stmt := topS 24
abbrev n__law_take : List Str := ["_law_pen", "_law_many", "_law_at", "_law_cell", "_law_found"]
abbrev s__law_anew : Stmt := topS 25
abbrev n__law_anew : List Str := ["_law_pen"]
abbrev s__law_one : Stmt := topS 26
abbrev n__law_one : List Str := ["_law_pen", "_law_some"]
abbrev s__law_is_whole : Stmt := topS 27
abbrev n__law_is_whole : List Str := ["_law_value"]
abbrev s__law_common : Stmt := topS 28
abbrev n__law_common : List Str := ["_law_one_here", "_law_other", "_law_step"]
abbrev s__law_low : Stmt := topS 29
abbrev n__law_low : List Str := ["_law_top", "_law_bottom", "_law_common_here", "_law_sign_here"]
abbrev s__law_add : Stmt := topS 30
abbrev n__law_add : List Str := ["_law_one_here", "_law_other"]
abbrev s__law_sub : Stmt := topS 31
abbrev n__law_sub : List Str := ["_law_one_here", "_law_other"]
abbrev s__law_mul : Stmt := topS 32
abbrev n__law_mul : List Str := ["_law_one_here", "_law_other"]
abbrev s__law_div : Stmt := topS 33
abbrev n__law_div : List Str := ["_law_one_here", "_law_other"]
abbrev s__law_sign : Stmt := topS 34
abbrev n__law_sign : List Str := ["_law_one_here"]
abbrev s__law_any : Stmt := topS 35
abbrev n__law_any : List Str := ["_law_pen", "_law_top", "_law_bottom", "_law_some"]
abbrev s__law_is : Stmt := topS 36
abbrev n__law_is : List Str := ["_law_value"]
abbrev s__law_due : Stmt := topS 37
abbrev n__law_due : List Str := ["_law_word", "_law_one_here", "_law_other", "_law_value"]
abbrev s__law_call : Stmt := topS 38
abbrev n__law_call : List Str := ["_law_word", "_law_one_here", "_law_other"]
abbrev s__law_told : Stmt := topS 39
abbrev n__law_told : List Str := ["_law_word", "_law_one_here", "_law_other", "_law_kept", "_law_found", "e"]
abbrev s_law : Stmt := topS 40
abbrev n_law : List Str := ["_law_script", "_law_pen", "_law_time", "_law_one_here", "_law_other", "_law_word", "_law_top", "_law_bottom", "_law_due_here"]
abbrev s_i_MixError : Stmt := inClass (topS 2) 0
theorem sc_i_MixError : FnScope ["self", "value"] ["self", "value"] (defScope s_i_MixError) := ⟨rfl, rfl, rfl, by decide +kernel, rfl, by decide +kernel, by decide +kernel⟩
abbrev s_i_BadFraction : Stmt := inClass (topS 3) 0
theorem sc_i_BadFraction : FnScope ["self", "value"] ["self", "value"] (defScope s_i_BadFraction) := ⟨rfl, rfl, rfl, by decide +kernel, rfl, by decide +kernel, by decide +kernel⟩
theorem sc_is_whole : FnScope ["value"] ["value"] (defScope s_is_whole) := ⟨rfl, rfl, rfl, by decide +kernel, rfl, by decide +kernel, by decide +kernel⟩
theorem sc_is_fraction : FnScope ["value", "top", "bottom"] ["value"] (defScope s_is_fraction) := ⟨rfl, rfl, rfl, by decide +kernel, rfl, by decide +kernel, by decide +kernel⟩
theorem sc_require_fraction : FnScope ["value"] ["value"] (defScope s_require_fraction) := ⟨rfl, rfl, rfl, by decide +kernel, rfl, by decide +kernel, by decide +kernel⟩
theorem sc_require_whole : FnScope ["value"] ["value"] (defScope s_require_whole) := ⟨rfl, rfl, rfl, by decide +kernel, rfl, by decide +kernel, by decide +kernel⟩
theorem sc_lowest : FnScope ["top", "bottom", "common"] ["top", "bottom"] (defScope s_lowest) := ⟨rfl, rfl, rfl, by decide +kernel, rfl, by decide +kernel, by decide +kernel⟩
theorem sc_add : FnScope ["one", "other"] ["one", "other"] (defScope s_add) := ⟨rfl, rfl, rfl, by decide +kernel, rfl, by decide +kernel, by decide +kernel⟩
theorem sc_subtract : FnScope ["one", "other"] ["one", "other"] (defScope s_subtract) := ⟨rfl, rfl, rfl, by decide +kernel, rfl, by decide +kernel, by decide +kernel⟩
theorem sc_multiply : FnScope ["one", "other"] ["one", "other"] (defScope s_multiply) := ⟨rfl, rfl, rfl, by decide +kernel, rfl, by decide +kernel, by decide +kernel⟩
theorem sc_divide : FnScope ["one", "other"] ["one", "other"] (defScope s_divide) := ⟨rfl, rfl, rfl, by decide +kernel, rfl, by decide +kernel, by decide +kernel⟩
theorem sc_fraction : FnScope ["top", "bottom"] ["top", "bottom"] (defScope s_fraction) := ⟨rfl, rfl, rfl, by decide +kernel, rfl, by decide +kernel, by decide +kernel⟩
theorem sc_plus : FnScope ["one", "other"] ["one", "other"] (defScope s_plus) := ⟨rfl, rfl, rfl, by decide +kernel, rfl, by decide +kernel, by decide +kernel⟩
theorem sc_minus : FnScope ["one", "other"] ["one", "other"] (defScope s_minus) := ⟨rfl, rfl, rfl, by decide +kernel, rfl, by decide +kernel, by decide +kernel⟩
theorem sc_times : FnScope ["one", "other"] ["one", "other"] (defScope s_times) := ⟨rfl, rfl, rfl, by decide +kernel, rfl, by decide +kernel, by decide +kernel⟩
theorem sc_over : FnScope ["one", "other"] ["one", "other"] (defScope s_over) := ⟨rfl, rfl, rfl, by decide +kernel, rfl, by decide +kernel, by decide +kernel⟩
theorem sc_compare : FnScope ["one", "other", "excess"] ["one", "other"] (defScope s_compare) := ⟨rfl, rfl, rfl, by decide +kernel, rfl, by decide +kernel, by decide +kernel⟩
theorem sc__law_spread : FnScope ["_law_cell", "_law_at", "_law_primes", "_law_mixed", "_law_one_here", "_law_rest", "_law_two", "_law_three"] ["_law_cell", "_law_at"] (defScope s__law_spread) := ⟨rfl, rfl, rfl, by decide +kernel, rfl, by decide +kernel, by decide +kernel⟩
theorem sc__law_open : FnScope ["_law_script", "_law_cells", "_law_k", "_law_cell"] ["_law_script"] (defScope s__law_open) := ⟨rfl, rfl, rfl, by decide +kernel, rfl, by decide +kernel, by decide +kernel⟩
theorem sc__law_take : FnScope ["_law_pen", "_law_many", "_law_at", "_law_cell", "_law_found"] ["_law_pen", "_law_many"] (defScope s__law_take) := ⟨rfl, rfl, rfl, by decide +kernel, rfl, by decide +kernel, by decide +kernel⟩
theorem sc__law_anew : FnScope ["_law_pen"] ["_law_pen"] (defScope s__law_anew) := ⟨rfl, rfl, rfl, by decide +kernel, rfl, by decide +kernel, by decide +kernel⟩
theorem sc__law_one : FnScope ["_law_pen", "_law_some"] ["_law_pen", "_law_some"] (defScope s__law_one) := ⟨rfl, rfl, rfl, by decide +kernel, rfl, by decide +kernel, by decide +kernel⟩
theorem sc__law_is_whole : FnScope ["_law_value"] ["_law_value"] (defScope s__law_is_whole) := ⟨rfl, rfl, rfl, by decide +kernel, rfl, by decide +kernel, by decide +kernel⟩
theorem sc__law_common : FnScope ["_law_one_here", "_law_other", "_law_step"] ["_law_one_here", "_law_other"] (defScope s__law_common) := ⟨rfl, rfl, rfl, by decide +kernel, rfl, by decide +kernel, by decide +kernel⟩
theorem sc__law_low : FnScope ["_law_top", "_law_bottom", "_law_common_here", "_law_sign_here"] ["_law_top", "_law_bottom"] (defScope s__law_low) := ⟨rfl, rfl, rfl, by decide +kernel, rfl, by decide +kernel, by decide +kernel⟩
theorem sc__law_add : FnScope ["_law_one_here", "_law_other"] ["_law_one_here", "_law_other"] (defScope s__law_add) := ⟨rfl, rfl, rfl, by decide +kernel, rfl, by decide +kernel, by decide +kernel⟩
theorem sc__law_sub : FnScope ["_law_one_here", "_law_other"] ["_law_one_here", "_law_other"] (defScope s__law_sub) := ⟨rfl, rfl, rfl, by decide +kernel, rfl, by decide +kernel, by decide +kernel⟩
theorem sc__law_mul : FnScope ["_law_one_here", "_law_other"] ["_law_one_here", "_law_other"] (defScope s__law_mul) := ⟨rfl, rfl, rfl, by decide +kernel, rfl, by decide +kernel, by decide +kernel⟩
theorem sc__law_div : FnScope ["_law_one_here", "_law_other"] ["_law_one_here", "_law_other"] (defScope s__law_div) := ⟨rfl, rfl, rfl, by decide +kernel, rfl, by decide +kernel, by decide +kernel⟩
theorem sc__law_sign : FnScope ["_law_one_here"] ["_law_one_here"] (defScope s__law_sign) := ⟨rfl, rfl, rfl, by decide +kernel, rfl, by decide +kernel, by decide +kernel⟩
theorem sc__law_any : FnScope ["_law_pen", "_law_top", "_law_bottom", "_law_some"] ["_law_pen"] (defScope s__law_any) := ⟨rfl, rfl, rfl, by decide +kernel, rfl, by decide +kernel, by decide +kernel⟩
theorem sc__law_is : FnScope ["_law_value"] ["_law_value"] (defScope s__law_is) := ⟨rfl, rfl, rfl, by decide +kernel, rfl, by decide +kernel, by decide +kernel⟩
theorem sc__law_due : FnScope ["_law_word", "_law_one_here", "_law_other", "_law_value"] ["_law_word", "_law_one_here", "_law_other"] (defScope s__law_due) := ⟨rfl, rfl, rfl, by decide +kernel, rfl, by decide +kernel, by decide +kernel⟩
theorem sc__law_call : FnScope ["_law_word", "_law_one_here", "_law_other"] ["_law_word", "_law_one_here", "_law_other"] (defScope s__law_call) := ⟨rfl, rfl, rfl, by decide +kernel, rfl, by decide +kernel, by decide +kernel⟩
theorem sc__law_told : FnScope ["_law_word", "_law_one_here", "_law_other", "_law_kept", "_law_found", "e"] ["_law_word", "_law_one_here", "_law_other"] (defScope s__law_told) := ⟨rfl, rfl, rfl, by decide +kernel, rfl, by decide +kernel, by decide +kernel⟩
theorem sc_law : FnScope ["_law_script", "_law_pen", "_law_time", "_law_one_here", "_law_other", "_law_word", "_law_top", "_law_bottom", "_law_due_here"] ["_law_script"] (defScope s_law) := ⟨rfl, rfl, rfl, by decide +kernel, rfl, by decide +kernel, by decide +kernel⟩
/-- what the top has written -/
structure Txt (K : PySem.W.Frag) (mg : Str → Option Value) where
  d_is_whole : FT K mg "is_whole" s_is_whole ["value"]
  d_is_fraction : FT K mg "is_fraction" s_is_fraction ["value"]
  d_require_fraction : FT K mg "require_fraction" s_require_fraction ["value"]
  d_require_whole : FT K mg "require_whole" s_require_whole ["value"]
  d_lowest : FT K mg "lowest" s_lowest ["top", "bottom"]
  d_add : FT K mg "add" s_add ["one", "other"]
  d_subtract : FT K mg "subtract" s_subtract ["one", "other"]
  d_multiply : FT K mg "multiply" s_multiply ["one", "other"]
  d_divide : FT K mg "divide" s_divide ["one", "other"]
  d_fraction : FT K mg "fraction" s_fraction ["top", "bottom"]
  d_plus : FT K mg "plus" s_plus ["one", "other"]
  d_minus : FT K mg "minus" s_minus ["one", "other"]
  d_times : FT K mg "times" s_times ["one", "other"]
  d_over : FT K mg "over" s_over ["one", "other"]
  d_compare : FT K mg "compare" s_compare ["one", "other"]
  d__law_spread : FT K mg "_law_spread" s__law_spread ["_law_cell", "_law_at"]
  d__law_open : FT K mg "_law_open" s__law_open ["_law_script"]
  d__law_take : FT K mg "_law_take" s__law_take ["_law_pen", "_law_many"]
  d__law_anew : FT K mg "_law_anew" s__law_anew ["_law_pen"]
  d__law_one : FT K mg "_law_one" s__law_one ["_law_pen", "_law_some"]
  d__law_is_whole : FT K mg "_law_is_whole" s__law_is_whole ["_law_value"]
  d__law_common : FT K mg "_law_common" s__law_common ["_law_one_here", "_law_other"]
  d__law_low : FT K mg "_law_low" s__law_low ["_law_top", "_law_bottom"]
  d__law_add : FT K mg "_law_add" s__law_add ["_law_one_here", "_law_other"]
  d__law_sub : FT K mg "_law_sub" s__law_sub ["_law_one_here", "_law_other"]
  d__law_mul : FT K mg "_law_mul" s__law_mul ["_law_one_here", "_law_other"]
  d__law_div : FT K mg "_law_div" s__law_div ["_law_one_here", "_law_other"]
  d__law_sign : FT K mg "_law_sign" s__law_sign ["_law_one_here"]
  d__law_any : FT K mg "_law_any" s__law_any ["_law_pen"]
  d__law_is : FT K mg "_law_is" s__law_is ["_law_value"]
  d__law_due : FT K mg "_law_due" s__law_due ["_law_word", "_law_one_here", "_law_other"]
  d__law_call : FT K mg "_law_call" s__law_call ["_law_word", "_law_one_here", "_law_other"]
  d__law_told : FT K mg "_law_told" s__law_told ["_law_word", "_law_one_here", "_law_other"]
  d_law : FT K mg "law" s_law ["_law_script"]
  n_abs : mg "abs" = none
  n_bool : mg "bool" = none
  n_enumerate : mg "enumerate" = none
  n_int : mg "int" = none
  n_isinstance : mg "isinstance" = none
  n_len : mg "len" = none
  n_list : mg "list" = none
  n_range : mg "range" = none
  n_repr : mg "repr" = none
  n_tuple : mg "tuple" = none
  n_gcd : mg "gcd" = some (.builtin "math.gcd")
  a_ZERO : Addr
  c_ZERO : mg "ZERO" = some (.ref a_ZERO)
  k_ZERO : ∃ (o : Obj) (its : Array Value) (n : Nat), K.lookup a_ZERO = some o ∧ o.cls = .type "tuple" ∧ o.data = .seq its n ∧ its.size ≤ sizeLine ∧ Vals [.int 0, .int 1] its.toList
  n_ValueError : mg "ValueError" = none
  v_VE : PySem.W.findCls K (.type "ValueError") (.type "type") "__init__" = some (.val (.builtin "ValueError.__init__"))
  M : BaseK K mg "MixError" "MixError.__init__" s_i_MixError
  E_BadFraction : ErrK K mg "BadFraction" "BadFraction.__init__" M.C s_i_BadFraction
/-! ### the program: onenumber.errors, onenumber.amounts, for any data -/
/-- an error of the class at C that keeps v, raised from H on -/
def Er (C : Addr) (v : V) (H : Hp) (E : XK) : Prop := ∀ dd k H', Ex H H' → H' dd = some (.xd (kd k v)) → E (.ref C) (some dd) H'
theorem Er.ex {C : Addr} {v : V} {H H1 : Hp} {E : XK} (e : Ex H H1) (h : Er C v H E) : Er C v H1 E := fun dd k H' e' q => h dd k H' (e.trans e') q
theorem rd_raise {C : Addr} {v : V} {σ : L2.St} {H : Hp} {i : Nat} {E : XK} (hv : σ[i]? = some (some v)) (k : Er C v H E) : tMkO C (spInit C) [] (tCons (tVar i) tNil) σ H E := by
  refine ⟨v, hv, by show 1 ≤ 1000; decide, fun a ha => ⟨a, v, rfl, upd_same, fun dx kn H' h1 ne e1 e2 keep => ⟨rfl, dx, _, e1, e2, ?_, ?_⟩⟩⟩
  · rw [upd_ne ne] at h1
    exact h1
  · rw [upd_ne ne] at h1
    refine k dx kn _ (fun b o hb => ?_) upd_same
    have n1 : b ≠ a := ne_of_none hb ha
    rw [upd_ne (ne_of_none hb h1), del_ne n1]
    exact keep b o n1 (by rw [upd_ne n1]; exact hb)
def ival : PyData → Int
  | .int n => n
  | _ => 0
section
variable {K : PySem.W.Frag} {p : Addr} {H H' : Hp} {v : V} {d : PyData} {σ : L2.St} {i : Nat} {b : Bool}
theorem Dq.ival (h : Dq K p H v d) (hw : isWh d = true) : v = .int (ival d) ∧ d = .int (Jf.ival d) := by
  cases h with
  | int n => exact ⟨rfl, rfl⟩
  | _ => cases hw
theorem ev_isi {T : String} (hv : σ[i]? = some (some v)) (hd : Dq K p H v d) (hk : kitB (tyName d) T = some b) : Ev (tCB (rIsi K) (tCons (tVar i) (tCons (tC (.ty T)) tNil))) σ H (.bl b) :=
  fun H1 e Q k => ⟨v, hv, v, .ty T, .type (tyName d), .type T, b, rfl, .ty _, (Dq.ex e _ _ hd).ty, kit_ty hk, k H1 (Ex.refl H1)⟩
def spIsD (K : PySem.W.Frag) (sm : PyData → Prop) (f : PyData → Bool) : Sp := fun vs H Q _ => ∃ (p : Addr) (v : V) (d : PyData), vs = [v] ∧ Dq K p H v d ∧ sm d ∧ ∀ H', Ex H H' → Q (.bl (f d)) H'
theorem ev_isD {E : XK} {sm : PyData → Prop} {f : PyData → Bool} {te : TE} (he : Ev te σ H v) (hd : Dq K p H v d) (hs : sm d) : Ev (tCall (spIsD K sm f) [] E (tCons te tNil)) σ H (.bl (f d)) :=
  fun H1 e Q k => he H1 e _ fun H2 e2 => ⟨p, v, d, rfl, Dq.ex (e.trans e2) _ _ hd, hs, fun H' e' => k H' (e2.trans e')⟩
/-- nothing asked -/
def Any (_ : PyData) : Prop := True
def spReq (K : PySem.W.Frag) (C : Addr) (f : PyData → Bool) : Sp := fun vs H Q E => ∃ (p : Addr) (v : V) (d : PyData), vs = [v] ∧ Dq K p H v d ∧ (f d = true → ∀ H', Ex H H' → Q .non H') ∧ (f d = false → Er C v H E)
/-- two fractions, or none -/
def spX (K : PySem.W.Frag) (C : Addr) (ok : Rat → Prop) (R : Rat → Rat → V → Hp → Prop) : Sp := fun vs H Q E => ∃ (p : Addr) (u v : V) (d e : PyData), vs = [u, v] ∧ Dq K p H u d ∧ Dq K p H v e ∧ Bd 100 (frQ d) ∧ Bd 100 (frQ e) ∧
  (frB d = false → Er C u H E) ∧ (frB d = true → frB e = false → Er C v H E) ∧ (frB d = true → frB e = true → ¬ ok (frQ e) → Er C v H E) ∧
  (frB d = true → frB e = true → ok (frQ e) → ∀ z H', Ex H H' → R (frQ d) (frQ e) z H' → Q z H')
end
section
variable {P : Program} {w : World} {K : PySem.W.Frag} {mg : Str → Option Value} {base : Heap}
theorem ok_i_MixError (T : Txt K mg) : FnOk P w K mg base CX0 1 T.M.f T.M.fd ["self", "value"] (spInitM K) := by
  refine T.M.F.ok sc_i_MixError (fun vs H Q E h => ?_) (fun cdv A outer s H vs Q E hr h => ?_)
  · obtain ⟨C, a, v, nm, rfl, _⟩ := h
    rfl
  · obtain ⟨C, a, v, nm, rfl, ox, nv, nk, NM, ha, k⟩ := h
    refine ⟨_, pss_cons (ps_expr (pe_veinit (by rfl) T.n_ValueError T.v_VE (pa_cons (pv 0) (pa_cons pe_str pa_nil)))) (pss_cons (ps_ost (pv 0) (pv 1)) (pss_one (ps_ost (pv 0) (pe_nm (pv 0))))), ?_⟩
    refine ⟨_, rfl, a, C, _, rfl, by show 1 ≤ 1000; decide, ox, ha, ?_⟩
    refine ⟨v, rfl, .ref a, rfl, a, C, rfl, ox, nv, .inl ⟨ha, fun dx hdx ne => ?_⟩⟩
    have ed : (upd (upd H dx (exd dx [(("value" : Str), v)])) a (exo a C (some dx))) dx = some (exd dx [(("value" : Str), v)]) := by rw [upd_ne ne]; exact upd_same
    refine ⟨.ref a, rfl, a, C, dx, _, nm, rfl, NM, upd_same, ed, .ref a, rfl, a, C, rfl, ox, nk, .inr ⟨dx, _, upd_same, ed, by show 1 ≤ 900; decide, ?_⟩⟩
    refine k dx nm _ hdx ne (by rw [upd_ne ne.symm]; exact upd_same) upd_same fun b o hb h => ?_
    rw [upd_ne (ne_of_none h hdx), upd_ne hb, upd_ne (ne_of_none h hdx)]
    exact h
theorem ok_i_BadFraction (T : Txt K mg) : FnOk P w K mg base CX0 2 T.E_BadFraction.f T.E_BadFraction.fd ["self", "value"] (spInit T.E_BadFraction.C) := by
  refine T.E_BadFraction.F.ok sc_i_BadFraction (fun vs H Q E h => ?_) (fun cdv A outer s H vs Q E hr h => ?_)
  · obtain ⟨a, v, rfl, _⟩ := h
    rfl
  · obtain ⟨a, v, rfl, ha, k⟩ := h
    refine ⟨_, pss_one (ps_expr (pe_clsdef (by rfl) T.M.g T.M.rd T.M.ga T.M.fi T.M.kp (ok_i_MixError T) (hr.mono (by decide)) T.M.b pass0 (pa_cons (pv 0) (pa_cons (pv 1) pa_nil)))), ?_⟩
    exact ⟨_, rfl, _, rfl, T.E_BadFraction.C, a, v, _, rfl, T.E_BadFraction.x.oex, T.E_BadFraction.x.noV, T.E_BadFraction.x.noK, T.E_BadFraction.x.nm, ha, k⟩
theorem ok_is_whole (T : Txt K mg) : FnOk P w K mg base CX0 1 T.d_is_whole.a T.d_is_whole.fd ["value"] (spIsD K Any isWh) := by
  refine T.d_is_whole.F.ok sc_is_whole (fun vs H Q E h => ?_) (fun cdv A outer s H vs Q E hr h => ?_)
  · obtain ⟨p, v, d, rfl, _⟩ := h
    rfl
  · obtain ⟨p, v, d, rfl, hd, _, k⟩ := h
    refine ⟨_, (pss_one (ps_ret (pe_and (pe_callB call_isi (by rfl) T.n_isinstance (by decide +kernel) (pa_cons (pv 0) (pa_cons (pe_bltn (v := .ty "int") (by rfl) T.n_int (by decide +kernel) rfl) pa_nil))) (pe_one (pe_not (pe_callB call_isi (by rfl) T.n_isinstance (by decide +kernel) (pa_cons (pv 0) (pa_cons (pe_bltn (v := .ty "bool") (by rfl) T.n_bool (by decide +kernel) rfl) pa_nil)))))))), ?_⟩
    refine s_ret (ev_andV (ev_isi rfl hd (kit_int d)) fun _ => ev_notV (ev_isi rfl hd (kit_bool d))) fun H1 e => ?_
    rw [wh_eq]
    exact k H1 e
theorem ok_is_fraction (T : Txt K mg) : FnOk P w K mg base CX0 2 T.d_is_fraction.a T.d_is_fraction.fd ["value"] (spIsD K Any frB) := by
  refine T.d_is_fraction.F.ok sc_is_fraction (fun vs H Q E h => ?_) (fun cdv A outer s H vs Q E hr h => ?_)
  · obtain ⟨p, v, d, rfl, _⟩ := h
    rfl
  · obtain ⟨p, v, d, rfl, hd, _, k⟩ := h
    refine ⟨_, (pss_cons (ps_if (PW.pt (pw_or (pt_not (pt_val (pe_callB call_isi (by rfl) T.n_isinstance (by decide +kernel) (pa_cons (pv 0) (pa_cons (pe_bltn (v := .ty "tuple") (by rfl) T.n_tuple (by decide +kernel) rfl) pa_nil))))) (pw_or1 (pt_cmpR op_ne (pe_callB call_len_seq (by rfl) T.n_len (by decide +kernel) (pa_cons (pv 0) pa_nil)) pe_int (nomark _))))) (pss_one (ps_ret pe_bl)) pss_nil)
      (pss_cons (ps_asg (pv 0) (pg_tup (by rfl) (pgs_cons (pg_name (i := 1) sc_is_fraction.nd rfl (Or.inl rfl)) (pgs_cons (pg_name (i := 2) sc_is_fraction.nd rfl (Or.inl rfl)) pgs_nil))))
      (pss_cons (ps_if (PW.pt (pw_or (pt_not (pt_val (pe_call (ok_is_whole T) (hr.mono (by decide)) (by rfl) T.d_is_whole.g T.d_is_whole.F.kp T.d_is_whole.b .nil pass0 (pa_cons (pv 1) pa_nil)))) (pw_or (pt_not (pt_val (pe_call (ok_is_whole T) (hr.mono (by decide)) (by rfl) T.d_is_whole.g T.d_is_whole.F.kp T.d_is_whole.b .nil pass0 (pa_cons (pv 2) pa_nil)))) (pw_or1 (pt_cmpR op_le (pv 2) pe_int (nomark _)))))) (pss_one (ps_ret pe_bl)) pss_nil)
      (pss_one (ps_ret (pe_cmpR op_eq (pe_callBfun cr_gcd (by rfl) T.n_gcd (pa_cons (pv 1) (pa_cons (pv 2) pa_nil))) pe_int (nomark _))))))), ?_⟩
    by_cases ht : isTup d = true
    · cases hd with
      | @tup a xs ds hS hA =>
        by_cases h2 : xs.length = 2
        · have h2' := h2
          rw [hA.len] at h2'
          obtain ⟨x1, x2, rfl⟩ : ∃ x1 x2, xs = [x1, x2] := match xs, h2 with | [x1, x2], _ => ⟨x1, x2, rfl⟩
          obtain ⟨d1, d2, rfl⟩ : ∃ d1 d2, ds = [d1, d2] := match ds, h2' with | [d1, d2], _ => ⟨d1, d2, rfl⟩
          have hD : Dq K p H (.ref a) (.tuple [d1, d2]) := .tup hS hA
          obtain ⟨q1, q2⟩ : Dq K p H x1 d1 ∧ Dq K p H x2 d2 := by
            cases hA with
            | cons a b =>
              cases b with
              | cons b c => exact ⟨a, b⟩
          refine s_if (b := false) (et_is (et_or (et_not (et_B (ev_isi rfl hD (kit_tup _)))) fun _ => et_test (fun H1 e Q k => ⟨_, rfl, a, _, rfl, .inr (ex_t e hS), rfl, k H1 (Ex.refl H1)⟩)) rfl) (fun z => nomatch z) fun _ H1 e1 => ?_
          refine ⟨_, rfl, a, [x1, x2], rfl, ex_t e1 hS, rfl, _, _, rfl, _, _, rfl, rfl, ?_⟩
          have r1 := Dq.ex e1 _ _ q1
          have r2 := Dq.ex e1 _ _ q2
          have hlt : isWh d2 = true → x2 = .int (ival d2) := fun z => (r2.ival z).1
          refine s_if (b := !isWh d1 || (!isWh d2 || decide (ival d2 ≤ 0))) (et_or (et_not (et_B (ev_isD (ev_var rfl) r1 trivial))) fun _ => et_or (et_not (et_B (ev_isD (ev_var rfl) r2 trivial))) fun z => et_test (by
            have z' : isWh d2 = true := by simpa using z
            have hx := hlt z'
            subst hx
            exact ev_op (ev_var rfl) ev_c rv_I0)) (fun z H2 e2 => ?_) (fun z H2 e2 => ?_)
          · have e : frB (.tuple [d1, d2]) = false := by
              cases d1 with
              | int n =>
                cases d2 with
                | int m =>
                  have z' : decide (m ≤ 0) = true := z
                  have : ¬ 0 < m := by
                    have := of_decide_eq_true z'
                    omega
                  simp [frB, this]
                | _ => rfl
              | _ => rfl
            rw [e] at k
            exact k H2 (e1.trans e2)
          · have w1 : isWh d1 = true := by
              cases h : isWh d1 with
              | true => rfl
              | false =>
                rw [h] at z
                cases z
            have w2 : isWh d2 = true := by
              cases h : isWh d2 with
              | true => rfl
              | false =>
                rw [h, w1] at z
                cases z
            obtain ⟨g1, g2⟩ := r1.ival w1
            obtain ⟨g3, g4⟩ := r2.ival w2
            rw [w1, w2] at z
            have z' : ¬ ival d2 ≤ 0 := of_decide_eq_false (by simpa using z)
            generalize ival d1 = n at g1 g2
            generalize ival d2 = m at g3 g4 z'
            subst g1 g2 g3 g4
            refine ⟨_, rfl, _, rfl, n, m, rfl, rfl, ?_⟩
            have e : frB (.tuple [.int n, .int m]) = decide (V.int ((Nat.gcd n.natAbs m.natAbs : Nat) : Int) = V.int 1) := by
              simp only [frB]
              rw [decide_eq_true (by omega : 0 < m), Bool.true_and]
              rw [Bool.eq_iff_iff, decide_eq_true_iff, decide_eq_true_iff]
              constructor
              · intro h
                rw [h]
                rfl
              · intro h
                have := V.int.inj h
                omega
            rw [e] at k
            exact k H2 (e1.trans e2)
        · refine s_if (b := true) (et_is (et_or (et_not (et_B (ev_isi rfl (.tup hS hA) (kit_tup _)))) fun _ => et_test (fun H1 e Q k => ⟨_, rfl, a, _, rfl, .inr (ex_t e hS), rfl, k H1 (Ex.refl H1)⟩)) ?_) (fun _ H1 e1 => ?_) (fun z => nomatch z)
          · have : ¬ V.int (xs.length : Int) = V.int 2 := fun z => h2 (by
              have := V.int.inj z
              omega)
            simp [isTup, this]
          · have e : frB (.tuple ds) = false := by
              have := hA.len
              match ds, this with
              | [], _ => rfl
              | [_], _ => simp [frB]
              | [_, _], h => exact absurd h h2
              | _ :: _ :: _ :: _, _ => simp [frB]
            rw [e] at k
            exact k H1 e1
      | _ => cases ht
    · have e : frB d = false := by
        cases d <;> (first | rfl | exact absurd rfl ht)
      have ht' : isTup d = false := by simpa using ht
      refine s_if (b := true) (et_is (et_or (b := false) (et_not (et_B (ev_isi rfl hd (kit_tup d)))) fun z => ?_) ?_) (fun _ H1 e1 => ?_) (fun z => nomatch z)
      · rw [ht'] at z
        cases z
      · rw [ht']
        rfl
      · rw [e] at k
        exact k H1 e1
theorem ok_require_fraction (T : Txt K mg) : FnOk P w K mg base (L2.CX P w) 4 T.d_require_fraction.a T.d_require_fraction.fd ["value"] (spReq K T.E_BadFraction.C frB) := by
  refine T.d_require_fraction.F.okX sc_require_fraction (fun vs H Q E h => ?_) (fun cdv A outer s H vs Q E hr h => ?_)
  · obtain ⟨p, v, d, rfl, _⟩ := h
    rfl
  · obtain ⟨p, v, d, rfl, hd, k1, k2⟩ := h
    refine ⟨_, (pss_one (ps_if (pt_not (pt_val (pe_call (ok_is_fraction T) (hr.mono (by decide)) (by rfl) T.d_is_fraction.g T.d_is_fraction.F.kp T.d_is_fraction.b .nil pass0 (pa_cons (pv 0) pa_nil)))) (pss_one (ps_raise rfl (takes_of rfl rfl rfl rfl) (pmk_oex T.E_BadFraction.x.oex T.E_BadFraction.x.i T.E_BadFraction.x.t (ok_i_BadFraction T) (hr.mono (by decide)) T.E_BadFraction.b .nil pass0 (by rfl) T.E_BadFraction.g (pa_cons (pv 0) pa_nil)))) pss_nil)), ?_⟩
    refine s_if (et_not (et_B (ev_isD (ev_var rfl) hd trivial))) (fun z H1 e1 => ?_) (fun z H1 e1 => ?_)
    · exact rd_raise rfl ((k2 (by simpa using z)).ex e1)
    · exact k1 (by simpa using z) H1 e1
theorem ok_require_whole (T : Txt K mg) : FnOk P w K mg base (L2.CX P w) 4 T.d_require_whole.a T.d_require_whole.fd ["value"] (spReq K T.E_BadFraction.C isWh) := by
  refine T.d_require_whole.F.okX sc_require_whole (fun vs H Q E h => ?_) (fun cdv A outer s H vs Q E hr h => ?_)
  · obtain ⟨p, v, d, rfl, _⟩ := h
    rfl
  · obtain ⟨p, v, d, rfl, hd, k1, k2⟩ := h
    refine ⟨_, (pss_one (ps_if (pt_not (pt_val (pe_call (ok_is_whole T) (hr.mono (by decide)) (by rfl) T.d_is_whole.g T.d_is_whole.F.kp T.d_is_whole.b .nil pass0 (pa_cons (pv 0) pa_nil)))) (pss_one (ps_raise rfl (takes_of rfl rfl rfl rfl) (pmk_oex T.E_BadFraction.x.oex T.E_BadFraction.x.i T.E_BadFraction.x.t (ok_i_BadFraction T) (hr.mono (by decide)) T.E_BadFraction.b .nil pass0 (by rfl) T.E_BadFraction.g (pa_cons (pv 0) pa_nil)))) pss_nil)), ?_⟩
    refine s_if (et_not (et_B (ev_isD (ev_var rfl) hd trivial))) (fun z H1 e1 => ?_) (fun z H1 e1 => ?_)
    · exact rd_raise rfl ((k2 (by simpa using z)).ex e1)
    · exact k1 (by simpa using z) H1 e1
end
section
variable {P : Program} {w : World} {K : PySem.W.Frag} {mg : Str → Option Value} {base : Heap}
theorem ok_lowest (T : Txt K mg) : FnOk P w K mg base CX0 1 T.d_lowest.a T.d_lowest.fd ["top", "bottom"] (spLow K) := by
  refine T.d_lowest.F.ok sc_lowest (fun vs H Q E h => ?_) (fun cdv A outer s H vs Q E hr h => ?_)
  · obtain ⟨n, d, b, rfl, _⟩ := h
    rfl
  · obtain ⟨n, d, b, rfl, hd, hn, hb, hl, k⟩ := h
    refine ⟨_, (pss_cons (ps_set (i := 2) sc_lowest.nd rfl (Or.inl rfl) (pe_callBfun cr_gcd (by rfl) T.n_gcd (pa_cons (pv 0) (pa_cons (pv 1) pa_nil))))
      (pss_cons (ps_if (pt_cmpR op_lt (pv 1) pe_int (nomark _)) (pss_one (ps_set (i := 2) sc_lowest.nd rfl (Or.inl rfl) (pe_un un_neg (pv 2)))) pss_nil)
      (pss_one (ps_ret (pe_tup (pa_cons (pe_op op_fdivZ (pv 0) (pv 2)) (pa_cons (pe_op op_fdivZ (pv 1) (pv 2)) pa_nil))))))), ?_⟩
    have e := lowest_eq n d hd
    have hG : Nat.gcd n.natAbs d.natAbs ≤ d.natAbs := Nat.gcd_le_right _ (by omega)
    have hp := gcd_pos (n := n) hd
    refine ⟨_, rfl, _, rfl, n, d, rfl, ?_⟩
    refine ⟨_, rfl, d, 0, rfl, rfl, _, rfl, ite2 (fun c => ?_) (fun c => ?_)⟩
    · have c' : d < 0 := of_decide_eq_true c
      rw [if_pos c'] at e
      refine ⟨_, rfl, _, rfl, ?_⟩
      have hz : ∀ i : Int, CDivZ i (-((Nat.gcd n.natAbs d.natAbs : Nat) : Int)) := fun _ => ⟨by omega, by
        have : (-((Nat.gcd n.natAbs d.natAbs : Nat) : Int)).natAbs = Nat.gcd n.natAbs d.natAbs := by omega
        rw [this]
        exact log_lt (Nat.lt_of_le_of_lt hG hb) (by omega : b ≤ 9000) (by decide)⟩
      exact s_retP (ep_tup (b := b) (ev_fdivZ (ev_var rfl) (ev_var rfl) (hz _)) (ev_fdivZ (ev_var rfl) (ev_var rfl) (hz _)) e.1 e.2 (bd_divInt hd hn hb)) fun z H1 e w => k z H1 e w
    · have c' : ¬ d < 0 := fun z => c (decide_eq_true z)
      rw [if_neg c'] at e
      have hz : ∀ i : Int, CDivZ i ((Nat.gcd n.natAbs d.natAbs : Nat) : Int) := fun _ => ⟨by omega, by
        have : ((Nat.gcd n.natAbs d.natAbs : Nat) : Int).natAbs = Nat.gcd n.natAbs d.natAbs := by omega
        rw [this]
        exact log_lt (Nat.lt_of_le_of_lt hG hb) (by omega : b ≤ 9000) (by decide)⟩
      exact s_retP (ep_tup (b := b) (ev_fdivZ (ev_var rfl) (ev_var rfl) (hz _)) (ev_fdivZ (ev_var rfl) (ev_var rfl) (hz _)) e.1 e.2 (bd_divInt hd hn hb)) fun z H1 e w => k z H1 e w
theorem ok_add (T : Txt K mg) : FnOk P w K mg base CX0 2 T.d_add.a T.d_add.fd ["one", "other"] (sp2 K (fun _ => True) fun q r => q + r) := by
  refine T.d_add.F.ok sc_add (fun vs H Q E h => ?_) (fun cdv A outer s H vs Q E hr h => ?_)
  · obtain ⟨u, v, b, c, q, r, rfl, _⟩ := h
    rfl
  · obtain ⟨u, v, b, c, q, r, rfl, f, g, hl, _, k⟩ := h
    refine ⟨_, (pss_one (ps_ret (pe_call (ok_lowest T) (hr.mono (by decide)) (by rfl) T.d_lowest.g T.d_lowest.F.kp T.d_lowest.b .nil pass0 (pa_cons (pe_op op_add (pe_op op_mulW (pe_ix ix_tup (pv 0) pe_int (fun _ _ => rfl)) (pe_ix ix_tup (pv 1) pe_int (fun _ _ => rfl))) (pe_op op_mulW (pe_ix ix_tup (pv 1) pe_int (fun _ _ => rfl)) (pe_ix ix_tup (pv 0) pe_int (fun _ _ => rfl)))) (pa_cons (pe_op op_mulW (pe_ix ix_tup (pv 0) pe_int (fun _ _ => rfl)) (pe_ix ix_tup (pv 1) pe_int (fun _ _ => rfl))) pa_nil))))), ?_⟩
    have F := @ep_var K (start n_add [u, v]) H u b q 0 rfl f
    have G := @ep_var K (start n_add [u, v]) H v c r 1 rfl g
    have x := f.bd
    have y := g.bd
    exact s_retP (ep_Low (b := b + c + 1) (ev_add (ev_mulW (ev_0 F) (ev_1 G) (mulW x.1 (bd_den y) (by omega))) (ev_mulW (ev_0 G) (ev_1 F) (mulW y.1 (bd_den x) (by omega)))) (ev_mulW (ev_1 F) (ev_1 G) (mulW (bd_den x) (bd_den y) (by omega)))
      (Int.mul_ne_zero (den_ne q) (den_ne r)) (bn_add (bn_mul x.1 (bd_den y)) (by rw [Nat.add_comm b c]; exact bn_mul y.1 (bd_den x))) (lt_pow_mono (Nat.le_succ _) (bn_mul (bd_den x) (bd_den y))) hl (add_eq q r)) fun z H1 e w => k z H1 e w
theorem ok_subtract (T : Txt K mg) : FnOk P w K mg base CX0 2 T.d_subtract.a T.d_subtract.fd ["one", "other"] (sp2 K (fun _ => True) fun q r => q - r) := by
  refine T.d_subtract.F.ok sc_subtract (fun vs H Q E h => ?_) (fun cdv A outer s H vs Q E hr h => ?_)
  · obtain ⟨u, v, b, c, q, r, rfl, _⟩ := h
    rfl
  · obtain ⟨u, v, b, c, q, r, rfl, f, g, hl, _, k⟩ := h
    refine ⟨_, (pss_one (ps_ret (pe_call (ok_lowest T) (hr.mono (by decide)) (by rfl) T.d_lowest.g T.d_lowest.F.kp T.d_lowest.b .nil pass0 (pa_cons (pe_op op_sub (pe_op op_mulW (pe_ix ix_tup (pv 0) pe_int (fun _ _ => rfl)) (pe_ix ix_tup (pv 1) pe_int (fun _ _ => rfl))) (pe_op op_mulW (pe_ix ix_tup (pv 1) pe_int (fun _ _ => rfl)) (pe_ix ix_tup (pv 0) pe_int (fun _ _ => rfl)))) (pa_cons (pe_op op_mulW (pe_ix ix_tup (pv 0) pe_int (fun _ _ => rfl)) (pe_ix ix_tup (pv 1) pe_int (fun _ _ => rfl))) pa_nil))))), ?_⟩
    have F := @ep_var K (start n_subtract [u, v]) H u b q 0 rfl f
    have G := @ep_var K (start n_subtract [u, v]) H v c r 1 rfl g
    have x := f.bd
    have y := g.bd
    exact s_retP (ep_Low (b := b + c + 1) (ev_sub (ev_mulW (ev_0 F) (ev_1 G) (mulW x.1 (bd_den y) (by omega))) (ev_mulW (ev_0 G) (ev_1 F) (mulW y.1 (bd_den x) (by omega)))) (ev_mulW (ev_1 F) (ev_1 G) (mulW (bd_den x) (bd_den y) (by omega)))
      (Int.mul_ne_zero (den_ne q) (den_ne r)) (bn_sub (bn_mul x.1 (bd_den y)) (by rw [Nat.add_comm b c]; exact bn_mul y.1 (bd_den x))) (lt_pow_mono (Nat.le_succ _) (bn_mul (bd_den x) (bd_den y))) hl (sub_eq q r)) fun z H1 e w => k z H1 e w
theorem ok_multiply (T : Txt K mg) : FnOk P w K mg base CX0 2 T.d_multiply.a T.d_multiply.fd ["one", "other"] (sp2 K (fun _ => True) fun q r => q * r) := by
  refine T.d_multiply.F.ok sc_multiply (fun vs H Q E h => ?_) (fun cdv A outer s H vs Q E hr h => ?_)
  · obtain ⟨u, v, b, c, q, r, rfl, _⟩ := h
    rfl
  · obtain ⟨u, v, b, c, q, r, rfl, f, g, hl, _, k⟩ := h
    refine ⟨_, (pss_one (ps_ret (pe_call (ok_lowest T) (hr.mono (by decide)) (by rfl) T.d_lowest.g T.d_lowest.F.kp T.d_lowest.b .nil pass0 (pa_cons (pe_op op_mulW (pe_ix ix_tup (pv 0) pe_int (fun _ _ => rfl)) (pe_ix ix_tup (pv 1) pe_int (fun _ _ => rfl))) (pa_cons (pe_op op_mulW (pe_ix ix_tup (pv 0) pe_int (fun _ _ => rfl)) (pe_ix ix_tup (pv 1) pe_int (fun _ _ => rfl))) pa_nil))))), ?_⟩
    have F := @ep_var K (start n_multiply [u, v]) H u b q 0 rfl f
    have G := @ep_var K (start n_multiply [u, v]) H v c r 1 rfl g
    have x := f.bd
    have y := g.bd
    exact s_retP (ep_Low (b := b + c + 1) (ev_mulW (ev_0 F) (ev_0 G) (mulW x.1 y.1 (by omega))) (ev_mulW (ev_1 F) (ev_1 G) (mulW (bd_den x) (bd_den y) (by omega)))
      (Int.mul_ne_zero (den_ne q) (den_ne r)) (lt_pow_mono (Nat.le_succ _) (bn_mul x.1 y.1)) (lt_pow_mono (Nat.le_succ _) (bn_mul (bd_den x) (bd_den y))) hl (mul_eq q r)) fun z H1 e w => k z H1 e w
theorem ok_divide (T : Txt K mg) : FnOk P w K mg base CX0 2 T.d_divide.a T.d_divide.fd ["one", "other"] (sp2 K (fun r => r ≠ 0) fun q r => q / r) := by
  refine T.d_divide.F.ok sc_divide (fun vs H Q E h => ?_) (fun cdv A outer s H vs Q E hr h => ?_)
  · obtain ⟨u, v, b, c, q, r, rfl, _⟩ := h
    rfl
  · obtain ⟨u, v, b, c, q, r, rfl, f, g, hl, h0, k⟩ := h
    refine ⟨_, (pss_one (ps_ret (pe_call (ok_lowest T) (hr.mono (by decide)) (by rfl) T.d_lowest.g T.d_lowest.F.kp T.d_lowest.b .nil pass0 (pa_cons (pe_op op_mulW (pe_ix ix_tup (pv 0) pe_int (fun _ _ => rfl)) (pe_ix ix_tup (pv 1) pe_int (fun _ _ => rfl))) (pa_cons (pe_op op_mulW (pe_ix ix_tup (pv 0) pe_int (fun _ _ => rfl)) (pe_ix ix_tup (pv 1) pe_int (fun _ _ => rfl))) pa_nil))))), ?_⟩
    have F := @ep_var K (start n_divide [u, v]) H u b q 0 rfl f
    have G := @ep_var K (start n_divide [u, v]) H v c r 1 rfl g
    have x := f.bd
    have y := g.bd
    exact s_retP (ep_Low (b := b + c + 1) (ev_mulW (ev_0 F) (ev_1 G) (mulW x.1 (bd_den y) (by omega))) (ev_mulW (ev_1 F) (ev_0 G) (mulW (bd_den x) y.1 (by omega)))
      (Int.mul_ne_zero (den_ne q) (num_ne h0)) (lt_pow_mono (Nat.le_succ _) (bn_mul x.1 (bd_den y))) (lt_pow_mono (Nat.le_succ _) (bn_mul (bd_den x) y.1)) hl (div_eq q r)) fun z H1 e w => k z H1 e w
end
/-! ### onenumber.amounts: what may raise -/
theorem ep_K {K : PySem.W.Frag} {σ : L2.St} {H : Hp} {a : Addr} {b : Nat} {q : Rat} (h : ∃ (o : Obj) (its : Array Value) (n : Nat), K.lookup a = some o ∧ o.cls = .type "tuple" ∧ o.data = .seq its n ∧ its.size ≤ sizeLine ∧ Vals [.int q.num, .int (q.den : Int)] its.toList) (bd : Bd b q) :
    EvP (tC (.ref a)) σ H (Fr K b q) := fun H3 e3 Q k => k _ _ (Ex.refl _) ⟨a, rfl, .inr h, bd⟩
section
variable {P : Program} {w : World} {K : PySem.W.Frag} {mg : Str → Option Value} {base : Heap}
def spFrac (K : PySem.W.Frag) (C : Addr) : Sp := fun vs H Q E => ∃ (p : Addr) (u v : V) (d e : PyData), vs = [u, v] ∧ Dq K p H u d ∧ Dq K p H v e ∧ (ival d).natAbs < 2 ^ 100 ∧ (ival e).natAbs < 2 ^ 100 ∧
  (isWh d = false → Er C u H E) ∧ (isWh d = true → isWh e = false → Er C v H E) ∧ (isWh d = true → isWh e = true → ival e = 0 → Er C v H E) ∧
  (isWh d = true → isWh e = true → ival e ≠ 0 → ∀ z H', Ex H H' → Fr K 100 (Rat.divInt (ival d) (ival e)) z H' → Q z H')
theorem ok_fraction (T : Txt K mg) : FnOk P w K mg base (L2.CX P w) 5 T.d_fraction.a T.d_fraction.fd ["top", "bottom"] (spFrac K T.E_BadFraction.C) := by
  refine T.d_fraction.F.okX sc_fraction (fun vs H Q E h => ?_) (fun cdv A outer s H vs Q E hr h => ?_)
  · obtain ⟨p, u, v, d, e, rfl, _⟩ := h
    rfl
  · obtain ⟨p, u, v, d, e, rfl, hd, he, b1, b2, k1, k2, k3, k4⟩ := h
    refine ⟨_, (pss_cons (ps_expr (pe_call (ok_require_whole T) (hr.mono (by decide)) (by rfl) T.d_require_whole.g T.d_require_whole.F.kp T.d_require_whole.b .nil (passes_call (takes_of rfl rfl rfl rfl) fun _ _ _ _ h => h) (pa_cons (pv 0) pa_nil)))
      (pss_cons (ps_expr (pe_call (ok_require_whole T) (hr.mono (by decide)) (by rfl) T.d_require_whole.g T.d_require_whole.F.kp T.d_require_whole.b .nil (passes_call (takes_of rfl rfl rfl rfl) fun _ _ _ _ h => h) (pa_cons (pv 1) pa_nil)))
      (pss_cons (ps_if (pt_cmpR op_eq (pv 1) pe_int (nomark _)) (pss_one (ps_raise rfl (takes_of rfl rfl rfl rfl) (pmk_oex T.E_BadFraction.x.oex T.E_BadFraction.x.i T.E_BadFraction.x.t (ok_i_BadFraction T) (hr.mono (by decide)) T.E_BadFraction.b .nil pass0 (by rfl) T.E_BadFraction.g (pa_cons (pv 1) pa_nil)))) pss_nil)
      (pss_one (ps_ret (pe_call (ok_lowest T) (hr.mono (by decide)) (by rfl) T.d_lowest.g T.d_lowest.F.kp T.d_lowest.b .nil pass0 (pa_cons (pv 0) (pa_cons (pv 1) pa_nil)))))))), ?_⟩
    refine ⟨_, rfl, p, u, d, rfl, hd, fun w1 H1 e1 => ?_, fun z => k1 z⟩
    refine ⟨_, rfl, p, v, e, rfl, Dq.ex e1 _ _ he, fun w2 H2 e2 => ?_, fun z => (k2 w1 z).ex e1⟩
    obtain ⟨rfl, _⟩ := hd.ival w1
    obtain ⟨rfl, _⟩ := he.ival w2
    refine ⟨_, rfl, rfl, _, rfl, ite2 (fun c => ?_) (fun c => ?_)⟩
    · exact rd_raise rfl ((k3 w1 w2 (V.int.inj (of_decide_eq_true c))).ex (e1.trans e2))
    · have c' : ival e ≠ 0 := fun z => c (decide_eq_true (congrArg V.int z))
      exact s_retP (ep_Low (ev_var rfl) (ev_var rfl) c' b1 b2 (by decide) rfl) fun z H3 e3 w => k4 w1 w2 c' z H3 ((e1.trans e2).trans e3) w
theorem ok_plus (T : Txt K mg) : FnOk P w K mg base (L2.CX P w) 5 T.d_plus.a T.d_plus.fd ["one", "other"] (spX K T.E_BadFraction.C (fun _ => True) fun q r z H => Fr K 201 (q + r) z H) := by
  refine T.d_plus.F.okX sc_plus (fun vs H Q E h => ?_) (fun cdv A outer s H vs Q E hr h => ?_)
  · obtain ⟨p, u, v, d, e, rfl, _⟩ := h
    rfl
  · obtain ⟨p, u, v, d, e, rfl, hd, he, b1, b2, k1, k2, k3, k4⟩ := h
    refine ⟨_, (pss_cons (ps_expr (pe_call (ok_require_fraction T) (hr.mono (by decide)) (by rfl) T.d_require_fraction.g T.d_require_fraction.F.kp T.d_require_fraction.b .nil (passes_call (takes_of rfl rfl rfl rfl) fun _ _ _ _ h => h) (pa_cons (pv 0) pa_nil)))
      (pss_cons (ps_expr (pe_call (ok_require_fraction T) (hr.mono (by decide)) (by rfl) T.d_require_fraction.g T.d_require_fraction.F.kp T.d_require_fraction.b .nil (passes_call (takes_of rfl rfl rfl rfl) fun _ _ _ _ h => h) (pa_cons (pv 1) pa_nil)))
      (pss_one (ps_ret (pe_call (ok_add T) (hr.mono (by decide)) (by rfl) T.d_add.g T.d_add.F.kp T.d_add.b .nil pass0 (pa_cons (pv 0) (pa_cons (pv 1) pa_nil))))))), ?_⟩
    refine ⟨_, rfl, p, u, d, rfl, hd, fun w1 H1 e1 => ?_, fun z => k1 z⟩
    refine ⟨_, rfl, p, v, e, rfl, Dq.ex e1 _ _ he, fun w2 H2 e2 => ?_, fun z => (k2 w1 z).ex e1⟩
    have F := (Dq.ex (e1.trans e2) _ _ hd).fr w1 b1
    have G := (Dq.ex (e1.trans e2) _ _ he).fr w2 b2
    exact s_retP (ep_2 (ep_var rfl F) (ep_var rfl G) trivial (by decide) rfl) fun z H3 e3 w => k4 w1 w2 trivial z H3 ((e1.trans e2).trans e3) w
theorem ok_minus (T : Txt K mg) : FnOk P w K mg base (L2.CX P w) 5 T.d_minus.a T.d_minus.fd ["one", "other"] (spX K T.E_BadFraction.C (fun _ => True) fun q r z H => Fr K 201 (q - r) z H) := by
  refine T.d_minus.F.okX sc_minus (fun vs H Q E h => ?_) (fun cdv A outer s H vs Q E hr h => ?_)
  · obtain ⟨p, u, v, d, e, rfl, _⟩ := h
    rfl
  · obtain ⟨p, u, v, d, e, rfl, hd, he, b1, b2, k1, k2, k3, k4⟩ := h
    refine ⟨_, (pss_cons (ps_expr (pe_call (ok_require_fraction T) (hr.mono (by decide)) (by rfl) T.d_require_fraction.g T.d_require_fraction.F.kp T.d_require_fraction.b .nil (passes_call (takes_of rfl rfl rfl rfl) fun _ _ _ _ h => h) (pa_cons (pv 0) pa_nil)))
      (pss_cons (ps_expr (pe_call (ok_require_fraction T) (hr.mono (by decide)) (by rfl) T.d_require_fraction.g T.d_require_fraction.F.kp T.d_require_fraction.b .nil (passes_call (takes_of rfl rfl rfl rfl) fun _ _ _ _ h => h) (pa_cons (pv 1) pa_nil)))
      (pss_one (ps_ret (pe_call (ok_subtract T) (hr.mono (by decide)) (by rfl) T.d_subtract.g T.d_subtract.F.kp T.d_subtract.b .nil pass0 (pa_cons (pv 0) (pa_cons (pv 1) pa_nil))))))), ?_⟩
    refine ⟨_, rfl, p, u, d, rfl, hd, fun w1 H1 e1 => ?_, fun z => k1 z⟩
    refine ⟨_, rfl, p, v, e, rfl, Dq.ex e1 _ _ he, fun w2 H2 e2 => ?_, fun z => (k2 w1 z).ex e1⟩
    have F := (Dq.ex (e1.trans e2) _ _ hd).fr w1 b1
    have G := (Dq.ex (e1.trans e2) _ _ he).fr w2 b2
    exact s_retP (ep_2 (ep_var rfl F) (ep_var rfl G) trivial (by decide) rfl) fun z H3 e3 w => k4 w1 w2 trivial z H3 ((e1.trans e2).trans e3) w
theorem ok_times (T : Txt K mg) : FnOk P w K mg base (L2.CX P w) 5 T.d_times.a T.d_times.fd ["one", "other"] (spX K T.E_BadFraction.C (fun _ => True) fun q r z H => Fr K 201 (q * r) z H) := by
  refine T.d_times.F.okX sc_times (fun vs H Q E h => ?_) (fun cdv A outer s H vs Q E hr h => ?_)
  · obtain ⟨p, u, v, d, e, rfl, _⟩ := h
    rfl
  · obtain ⟨p, u, v, d, e, rfl, hd, he, b1, b2, k1, k2, k3, k4⟩ := h
    refine ⟨_, (pss_cons (ps_expr (pe_call (ok_require_fraction T) (hr.mono (by decide)) (by rfl) T.d_require_fraction.g T.d_require_fraction.F.kp T.d_require_fraction.b .nil (passes_call (takes_of rfl rfl rfl rfl) fun _ _ _ _ h => h) (pa_cons (pv 0) pa_nil)))
      (pss_cons (ps_expr (pe_call (ok_require_fraction T) (hr.mono (by decide)) (by rfl) T.d_require_fraction.g T.d_require_fraction.F.kp T.d_require_fraction.b .nil (passes_call (takes_of rfl rfl rfl rfl) fun _ _ _ _ h => h) (pa_cons (pv 1) pa_nil)))
      (pss_one (ps_ret (pe_call (ok_multiply T) (hr.mono (by decide)) (by rfl) T.d_multiply.g T.d_multiply.F.kp T.d_multiply.b .nil pass0 (pa_cons (pv 0) (pa_cons (pv 1) pa_nil))))))), ?_⟩
    refine ⟨_, rfl, p, u, d, rfl, hd, fun w1 H1 e1 => ?_, fun z => k1 z⟩
    refine ⟨_, rfl, p, v, e, rfl, Dq.ex e1 _ _ he, fun w2 H2 e2 => ?_, fun z => (k2 w1 z).ex e1⟩
    have F := (Dq.ex (e1.trans e2) _ _ hd).fr w1 b1
    have G := (Dq.ex (e1.trans e2) _ _ he).fr w2 b2
    exact s_retP (ep_2 (ep_var rfl F) (ep_var rfl G) trivial (by decide) rfl) fun z H3 e3 w => k4 w1 w2 trivial z H3 ((e1.trans e2).trans e3) w
theorem ok_over (T : Txt K mg) : FnOk P w K mg base (L2.CX P w) 5 T.d_over.a T.d_over.fd ["one", "other"] (spX K T.E_BadFraction.C (fun r => r ≠ 0) fun q r z H => Fr K 201 (q / r) z H) := by
  refine T.d_over.F.okX sc_over (fun vs H Q E h => ?_) (fun cdv A outer s H vs Q E hr h => ?_)
  · obtain ⟨p, u, v, d, e, rfl, _⟩ := h
    rfl
  · obtain ⟨p, u, v, d, e, rfl, hd, he, b1, b2, k1, k2, k3, k4⟩ := h
    refine ⟨_, (pss_cons (ps_expr (pe_call (ok_require_fraction T) (hr.mono (by decide)) (by rfl) T.d_require_fraction.g T.d_require_fraction.F.kp T.d_require_fraction.b .nil (passes_call (takes_of rfl rfl rfl rfl) fun _ _ _ _ h => h) (pa_cons (pv 0) pa_nil)))
      (pss_cons (ps_expr (pe_call (ok_require_fraction T) (hr.mono (by decide)) (by rfl) T.d_require_fraction.g T.d_require_fraction.F.kp T.d_require_fraction.b .nil (passes_call (takes_of rfl rfl rfl rfl) fun _ _ _ _ h => h) (pa_cons (pv 1) pa_nil)))
      (pss_cons (ps_if (pt_cmpR (op_eqD hr.units) (pv 1) (pe_glob (v := .ref T.a_ZERO) rfl T.c_ZERO rfl) (nomark _)) (pss_one (ps_raise rfl (takes_of rfl rfl rfl rfl) (pmk_oex T.E_BadFraction.x.oex T.E_BadFraction.x.i T.E_BadFraction.x.t (ok_i_BadFraction T) (hr.mono (by decide)) T.E_BadFraction.b .nil pass0 (by rfl) T.E_BadFraction.g (pa_cons (pv 1) pa_nil)))) pss_nil)
      (pss_one (ps_ret (pe_call (ok_divide T) (hr.mono (by decide)) (by rfl) T.d_divide.g T.d_divide.F.kp T.d_divide.b .nil pass0 (pa_cons (pv 0) (pa_cons (pv 1) pa_nil)))))))), ?_⟩
    refine ⟨_, rfl, p, u, d, rfl, hd, fun w1 H1 e1 => ?_, fun z => k1 z⟩
    refine ⟨_, rfl, p, v, e, rfl, Dq.ex e1 _ _ he, fun w2 H2 e2 => ?_, fun z => (k2 w1 z).ex e1⟩
    have F := (Dq.ex (e1.trans e2) _ _ hd).fr w1 b1
    have G := (Dq.ex (e1.trans e2) _ _ he).fr w2 b2
    have hE : EvT (tTest (tOp (rEqD K) (tVar 1) (tC (.ref T.a_ZERO)))) [some u, some v] H2 (decide (frQ e = 0)) := et_test (ev_eqD (r := 0) (c := 1) (ep_var rfl G) (ep_K T.k_ZERO ⟨by decide, by decide⟩))
    dsimp only
    refine s_if hE (fun z H3 e3 => ?_) (fun z H3 e3 => ?_)
    · exact rd_raise rfl ((k3 w1 w2 (fun n => n (of_decide_eq_true z))).ex ((e1.trans e2).trans e3))
    · have h0 := of_decide_eq_false z
      exact s_retP (ep_2 (ok := fun r => r ≠ 0) (f := fun q r => q / r) (ep_var rfl (F.ex e3)) (ep_var rfl (G.ex e3)) h0 (by decide) rfl) fun z H4 e4 w => k4 w1 w2 h0 z H4 (((e1.trans e2).trans e3).trans e4) w
theorem ok_compare (T : Txt K mg) : FnOk P w K mg base (L2.CX P w) 5 T.d_compare.a T.d_compare.fd ["one", "other"] (spX K T.E_BadFraction.C (fun _ => True) fun q r z H => z = .int (cmp q r)) := by
  refine T.d_compare.F.okX sc_compare (fun vs H Q E h => ?_) (fun cdv A outer s H vs Q E hr h => ?_)
  · obtain ⟨p, u, v, d, e, rfl, _⟩ := h
    rfl
  · obtain ⟨p, u, v, d, e, rfl, hd, he, b1, b2, k1, k2, k3, k4⟩ := h
    refine ⟨_, (pss_cons (ps_expr (pe_call (ok_require_fraction T) (hr.mono (by decide)) (by rfl) T.d_require_fraction.g T.d_require_fraction.F.kp T.d_require_fraction.b .nil (passes_call (takes_of rfl rfl rfl rfl) fun _ _ _ _ h => h) (pa_cons (pv 0) pa_nil)))
      (pss_cons (ps_expr (pe_call (ok_require_fraction T) (hr.mono (by decide)) (by rfl) T.d_require_fraction.g T.d_require_fraction.F.kp T.d_require_fraction.b .nil (passes_call (takes_of rfl rfl rfl rfl) fun _ _ _ _ h => h) (pa_cons (pv 1) pa_nil)))
      (pss_cons (ps_set (i := 2) sc_compare.nd rfl (Or.inl rfl) (pe_ix ix_tup (pe_call (ok_subtract T) (hr.mono (by decide)) (by rfl) T.d_subtract.g T.d_subtract.F.kp T.d_subtract.b .nil pass0 (pa_cons (pv 0) (pa_cons (pv 1) pa_nil))) pe_int (fun _ _ => rfl)))
      (pss_cons (ps_if (pt_cmpR op_eq (pv 2) pe_int (nomark _)) (pss_one (ps_ret pe_int)) pss_nil)
      (pss_one (ps_ret (pe_ifExp (pt_cmpR op_gt (pv 2) pe_int (nomark _)) pe_int (pe_un un_neg pe_int)))))))), ?_⟩
    refine ⟨_, rfl, p, u, d, rfl, hd, fun w1 H1 e1 => ?_, fun z => k1 z⟩
    refine ⟨_, rfl, p, v, e, rfl, Dq.ex e1 _ _ he, fun w2 H2 e2 => ?_, fun z => (k2 w1 z).ex e1⟩
    have F := (Dq.ex (e1.trans e2) _ _ hd).fr w1 b1
    have G := (Dq.ex (e1.trans e2) _ _ he).fr w2 b2
    refine s_asg (ev_0 (ep_2 (ep_var rfl F) (ep_var rfl G) trivial (by decide) rfl)) fun H3 e3 => ?_
    have k' : Q (.int (cmp (frQ d) (frQ e))) H3 := k4 w1 w2 trivial _ H3 ((e1.trans e2).trans e3) rfl
    rw [← cmp_eq] at k'
    refine ⟨_, rfl, rfl, _, rfl, ite2 (fun c => ?_) (fun c => ?_)⟩
    · have c' : (frQ d - frQ e).num = 0 := V.int.inj (of_decide_eq_true c)
      rw [if_pos c'] at k'
      exact k'
    · have c' : ¬ (frQ d - frQ e).num = 0 := fun z => c (decide_eq_true (congrArg V.int z))
      rw [if_neg c'] at k'
      refine ⟨_, rfl, (frQ d - frQ e).num, 0, rfl, rfl, _, rfl, ite2 (fun d => ?_) (fun d => ?_)⟩
      · rw [if_pos (of_decide_eq_true d)] at k'
        exact k'
      · rw [if_neg (fun z => d (decide_eq_true z))] at k'
        exact ⟨1, rfl, k'⟩
end
/-! ### the law's own draws -/
/-- all but what stands at p is as it was -/
def ExB (p : Addr) (H H' : Hp) : Prop := ∀ b o, b ≠ p → H b = some o → H' b = some o
theorem ExB.refl (p : Addr) (H : Hp) : ExB p H H := fun _ _ _ h => h
theorem ExB.trans {p : Addr} {H H1 H2 : Hp} (a : ExB p H H1) (b : ExB p H1 H2) : ExB p H H2 := fun c o n h => b c o n (a c o n h)
theorem Ex.b {p : Addr} {H H1 : Hp} (a : Ex H H1) : ExB p H H1 := fun c o _ h => a c o h
theorem ExB.upd {p : Addr} {H H1 : Hp} {o : HO} (a : ExB p H H1) : ExB p H (upd H1 p o) := fun c o n h => by
  rw [upd_ne n]
  exact a c o n h
/-- the pen at p: its cells, its place, its rest -/
def Pen (H : Hp) (p a : Addr) (N : Nat) : Prop := ∃ (cs : List Int) (at_ vl : Int), H p = some (.lst [.ref a, .int at_, .int vl]) ∧ H a = some (.lst (cs.map V.int)) ∧ a ≠ p ∧ 0 ≤ at_ ∧ at_ ≤ N ∧ 0 ≤ vl ∧ cs.length ≤ 12
theorem Pen.ex {H H' : Hp} {p a : Addr} {N : Nat} (e : Ex H H') (h : Pen H p a N) : Pen H' p a N := by
  obtain ⟨cs, t, v, h1, h2, r⟩ := h
  exact ⟨cs, t, v, e _ _ h1, e _ _ h2, r⟩
theorem Pen.mono {H : Hp} {p a : Addr} {N M : Nat} (e : N ≤ M) (h : Pen H p a N) : Pen H p a M := by
  obtain ⟨cs, t, v, h1, h2, h3, h4, h5, r⟩ := h
  exact ⟨cs, t, v, h1, h2, h3, h4, by omega, r⟩
theorem Pen.hasP {H : Hp} {p a : Addr} {N : Nat} (h : Pen H p a N) : ∃ xs, H p = some (.lst xs) := by
  obtain ⟨cs, t, v, h1, _⟩ := h
  exact ⟨_, h1⟩
theorem Pen.hasC {H : Hp} {p a : Addr} {N : Nat} (h : Pen H p a N) : ∃ xs, H a = some (.lst xs) := by
  obtain ⟨cs, t, v, _, h1, _⟩ := h
  exact ⟨_, h1⟩
/-- a new or another object's store leaves it -/
theorem Pen.upd {H : Hp} {p a q : Addr} {N : Nat} {o : HO} (h : Pen H p a N) (h1 : q ≠ p) (h2 : q ≠ a) : Pen (upd H q o) p a N := by
  obtain ⟨cs, t, v, e1, e2, r⟩ := h
  exact ⟨cs, t, v, by rw [upd_ne h1.symm]; exact e1, by rw [upd_ne h2.symm]; exact e2, r⟩
/-- a tuple stays where a list changes -/
theorem tup_lst {K : PySem.W.Frag} {H H' : Hp} {p c : Addr} {xs ys : List V} (hp : H p = some (.lst xs)) (e : ExB p H H') (h : SqT K H c ys) : SqT K H' c ys := by
  rcases h with (h | ⟨o, h⟩) | h
  · exact .inl (.inl (e c _ (by rintro rfl; rw [hp] at h; cases h) h))
  · exact .inl (.inr ⟨o, e c _ (by rintro rfl; rw [hp] at h; cases h) h⟩)
  · exact .inr h
theorem Fr.lst {K : PySem.W.Frag} {H H' : Hp} {p : Addr} {xs : List V} {b : Nat} {q : Rat} {z : V} (hp : H p = some (.lst xs)) (e : ExB p H H') (h : Fr K b q z H) : Fr K b q z H' := by
  obtain ⟨c, rfl, h, x⟩ := h
  exact ⟨c, rfl, tup_lst hp e h, x⟩
/-- a way through a block, joined behind its first statement -/
theorem s_join {t u : TS} {D : Ends} {σ : L2.St} {H : Hp} (R : L2.St → Hp → Prop) (h1 : ∀ N : L2.St → Hp → Prop, (∀ σ H, R σ H → N σ H) → t { D with nx := N } σ H) (h2 : ∀ σ H, R σ H → u D σ H) : tSeq t u D σ H := h1 (u D) h2
theorem n_seq {t u : TS} {D : Ends} {σ : L2.St} {H : Hp} (h : t { D with nx := u D } σ H) : tSeq t u D σ H := h
theorem n_c {i : Nat} {v : V} {D : Ends} {σ : L2.St} {H : Hp} (h : D.nx (σ.set i (some v)) H) : tAsg (tC v) (gName i) D σ H := h
theorem atI_map {ms : List Int} {i : Int} (h0 : 0 ≤ i) (h : i < ms.length) : ∃ x, atI (ms.map V.int) i = some (.int x) := by
  obtain ⟨k, rfl⟩ : ∃ k : Nat, i = k := ⟨i.toNat, by omega⟩
  have hk : k < ms.length := by omega
  exact ⟨ms[k], atI_nat (by rw [List.getElem?_map, List.getElem?_eq_getElem hk]; rfl)⟩
def primes : List Int := [2147483629, 2147483587, 2147483579, 2147483563, 2147483549, 2147483543, 2147483497, 2147483489, 2147483477, 2147483423, 2147483399, 2147483353, 2147483323]
theorem prime_at {i : Int} (h0 : 0 ≤ i) (h : i < 13) : ∃ x : Int, atI (primes.map V.int) i = some (.int x) ∧ 0 < x ∧ x < 2147483648 := by
  have hk : ∀ k : Fin 13, ∃ x : Int, (primes.map V.int)[k.val]? = some (.int x) ∧ 0 < x ∧ x < 2147483648 := fun k => by
    have hl : k.val < primes.length := k.isLt
    refine ⟨primes[k.val], by rw [List.getElem?_map, List.getElem?_eq_getElem hl]; rfl, ?_⟩
    have : ∀ x ∈ primes, 0 < x ∧ x < 2147483648 := by decide
    exact this _ (List.getElem_mem hl)
  obtain ⟨x, e, hx⟩ := hk ⟨i.toNat, by omega⟩
  refine ⟨x, ?_, hx⟩
  have e2 := atI_nat e
  rwa [show ((i.toNat : Nat) : Int) = i by omega] at e2
theorem b64 {i : Int} (h0 : 0 ≤ i) (h : i < 18446744073709551616) : i.natAbs < 2 ^ 64 := by
  show i.natAbs < 18446744073709551616
  omega
section
variable {P : Program} {w : World} {K : PySem.W.Frag} {mg : Str → Option Value} {base : Heap}
def spSpread : Sp := fun vs H Q _ => ∃ c t : Int, vs = [.int c, .int t] ∧ 0 ≤ t ∧ t ≤ 1000 ∧ ∀ v H', 0 ≤ v → Ex H H' → Q (.int v) H'
theorem ok__law_spread (T : Txt K mg) : FnOk P w K mg base CX0 1 T.d__law_spread.a T.d__law_spread.fd ["_law_cell", "_law_at"] spSpread := by
  refine T.d__law_spread.F.ok sc__law_spread (fun vs H Q E h => ?_) (fun cdv A outer s H vs Q E hr h => ?_)
  · obtain ⟨c, t, rfl, _⟩ := h
    rfl
  · obtain ⟨c, t, rfl, h0, h1, k⟩ := h
    refine ⟨_, (pss_cons (ps_if (pt_cmpR op_ge (pv 0) (pe_op op_pow pe_int pe_int) (nomark _)) (pss_one (ps_ret (pv 0))) pss_nil)
      (pss_cons (ps_set (i := 2) sc__law_spread.nd rfl (Or.inl rfl) (pe_lst (pa_cons pe_int (pa_cons pe_int (pa_cons pe_int (pa_cons pe_int (pa_cons pe_int (pa_cons pe_int (pa_cons pe_int pa_nil)))))))))
      (pss_cons (ps_set (i := 2) sc__law_spread.nd rfl (Or.inl rfl) (pe_op op_cat (pv 2) (pe_lst (pa_cons pe_int (pa_cons pe_int (pa_cons pe_int (pa_cons pe_int (pa_cons pe_int (pa_cons pe_int pa_nil)))))))))
      (pss_cons (ps_set (i := 3) sc__law_spread.nd rfl (Or.inl rfl) (pe_op op_add (pe_op op_add (pe_op op_mulW (pe_op op_mod (pe_callTy call_int1 (by rfl) T.n_int (by decide +kernel) (pa_cons (pv 0) pa_nil)) pe_int) (pe_op op_add (pe_op op_mulW pe_int (pv 1)) pe_int)) (pe_op op_mulW (pv 1) pe_int)) pe_int))
      (pss_cons (ps_set (i := 4) sc__law_spread.nd rfl (Or.inl rfl) (pe_op op_mod (pe_callTy call_int1 (by rfl) T.n_int (by decide +kernel) (pa_cons (pe_op op_pow (pv 3) pe_int) pa_nil)) (pe_ix ix_list (pv 2) (pe_op op_mod (pe_callTy call_int1 (by rfl) T.n_int (by decide +kernel) (pa_cons (pv 1) pa_nil)) pe_int) (fun _ _ => rfl))))
      (pss_cons (ps_set (i := 5) sc__law_spread.nd rfl (Or.inl rfl) (pe_op op_add (pe_op op_mod (pe_callTy call_int1 (by rfl) T.n_int (by decide +kernel) (pa_cons (pv 0) pa_nil)) pe_int) pe_int))
      (pss_cons (ps_set (i := 6) sc__law_spread.nd rfl (Or.inl rfl) (pe_op op_mod (pe_callTy call_int1 (by rfl) T.n_int (by decide +kernel) (pa_cons (pe_op op_pow (pe_op op_add (pe_op op_mulW (pv 4) (pe_op op_add (pv 1) pe_int)) (pv 5)) pe_int) pa_nil)) (pe_ix ix_list (pv 2) (pe_op op_mod (pe_callTy call_int1 (by rfl) T.n_int (by decide +kernel) (pa_cons (pe_op op_add (pv 1) pe_int) pa_nil)) pe_int) (fun _ _ => rfl))))
      (pss_cons (ps_set (i := 7) sc__law_spread.nd rfl (Or.inl rfl) (pe_op op_mod (pe_callTy call_int1 (by rfl) T.n_int (by decide +kernel) (pa_cons (pe_op op_pow (pe_op op_add (pe_op op_add (pv 6) (pe_op op_mod (pe_callTy call_int1 (by rfl) T.n_int (by decide +kernel) (pa_cons (pv 4) pa_nil)) pe_int)) (pv 1)) pe_int) pa_nil)) (pe_ix ix_list (pv 2) (pe_op op_mod (pe_callTy call_int1 (by rfl) T.n_int (by decide +kernel) (pa_cons (pe_op op_add (pv 1) pe_int) pa_nil)) pe_int) (fun _ _ => rfl))))
      (pss_one (ps_ret (pe_op op_add (pe_op op_mulW (pe_op op_add (pe_op op_mulW (pv 4) pe_int) (pv 6)) pe_int) (pv 7)))))))))))), ?_⟩
    -- if cell >= 10 ** 18
    refine ⟨_, rfl, 10, 18, rfl, rfl, ⟨by decide, by decide, by decide⟩, c, _, rfl, rfl, _, rfl, ite2 (fun e => ?_) (fun e => ?_)⟩
    · have e' : (10 : Int) ^ (18 : Int).toNat ≤ c := of_decide_eq_true e
      have e2 : (10 : Int) ^ (18 : Int).toNat = 1000000000000000000 := by decide
      exact ⟨_, rfl, k c H (by omega) (Ex.refl H)⟩
    · -- the primes
      refine ⟨by show 7 ≤ sizeLine; decide, fun p1 f1 => ?_⟩
      refine ⟨.ref p1, rfl, by show 6 ≤ sizeLine; decide, fun p2 f2 => ?_⟩
      have n12 : p1 ≠ p2 := fun z => by
        rw [← z, upd_same] at f2
        cases f2
      refine ⟨p1, p2, _, _, rfl, rfl, (by rw [upd_ne n12]; exact upd_same), upd_same, (by show 13 ≤ sizeLine; decide), fun p3 f3 => ?_⟩
      have e1 : Ex H (upd (upd (upd H p1 (.lst [.int 2147483629, .int 2147483587, .int 2147483579, .int 2147483563, .int 2147483549, .int 2147483543, .int 2147483497])) p2 (.lst [.int 2147483489, .int 2147483477, .int 2147483423, .int 2147483399, .int 2147483353, .int 2147483323])) p3 (.lst ([.int 2147483629, .int 2147483587, .int 2147483579, .int 2147483563, .int 2147483549, .int 2147483543, .int 2147483497] ++ [.int 2147483489, .int 2147483477, .int 2147483423, .int 2147483399, .int 2147483353, .int 2147483323]))) :=
        ((Ex.new f1).trans (Ex.new f2)).trans (Ex.new f3)
      have hp : SqL K (upd (upd (upd H p1 (.lst [.int 2147483629, .int 2147483587, .int 2147483579, .int 2147483563, .int 2147483549, .int 2147483543, .int 2147483497])) p2 (.lst [.int 2147483489, .int 2147483477, .int 2147483423, .int 2147483399, .int 2147483353, .int 2147483323])) p3 (.lst ([.int 2147483629, .int 2147483587, .int 2147483579, .int 2147483563, .int 2147483549, .int 2147483543, .int 2147483497] ++ [.int 2147483489, .int 2147483477, .int 2147483423, .int 2147483399, .int 2147483353, .int 2147483323]))) p3 (primes.map V.int) := SqL.of upd_same
      -- mixed
      have a0 : 0 ≤ c % 1000000007 := Int.emod_nonneg _ (by decide)
      have a1 : c % 1000000007 < 1000000007 := Int.emod_lt_of_pos _ (by decide)
      generalize hc : c % 1000000007 = m at a0 a1
      have b0 : 0 ≤ m * (2 * t + 69069) := Int.mul_nonneg a0 (by omega)
      have b1 : m * (2 * t + 69069) ≤ 1000000007 * 71069 := Int.le_trans (Int.mul_le_mul_of_nonneg_right (by omega : m ≤ 1000000007) (by omega)) (Int.mul_le_mul_of_nonneg_left (by omega) (by decide))
      refine ⟨.int c, rfl, .inl ⟨c, rfl, c, 1000000007, rfl, rfl, (by decide : (0 : Int) < 1000000007), _, rfl, 2, t, rfl, rfl, mulW (a := 64) (b := 64) (b64 (by decide) (by decide)) (b64 h0 (by omega)) (by decide), 2 * t, 69069, rfl, rfl, c % 1000000007, 2 * t + 69069, rfl, rfl, (by rw [hc]; exact mulW (a := 64) (b := 64) (b64 a0 (by omega)) (b64 (by omega) (by omega)) (by decide)), ?_⟩⟩
      rw [hc]
      refine ⟨_, rfl, t, 40503, rfl, rfl, mulW (a := 64) (b := 64) (b64 h0 (by omega)) (b64 (by decide) (by decide)) (by decide), m * (2 * t + 69069), t * 40503, rfl, rfl, m * (2 * t + 69069) + t * 40503, 977, rfl, rfl, ?_⟩
      have m0 : 0 ≤ m * (2 * t + 69069) + t * 40503 + 977 := by omega
      have m1 : m * (2 * t + 69069) + t * 40503 + 977 < 18446744073709551616 := by omega
      -- one
      refine ⟨_, rfl, m * (2 * t + 69069) + t * 40503 + 977, 3, rfl, rfl, ⟨by decide, by decide, b64 m0 m1⟩, .inl ⟨_, rfl, _, rfl, _, rfl, .inl ⟨t, rfl, t, 13, rfl, rfl, (by decide : (0 : Int) < 13), ?_⟩⟩⟩
      obtain ⟨x1, g1, q1, r1⟩ := prime_at (i := t % 13) (Int.emod_nonneg _ (by decide)) (Int.emod_lt_of_pos _ (by decide))
      refine ⟨p3, _, t % 13, .int x1, rfl, rfl, hp, g1, _, x1, rfl, rfl, q1, ?_⟩
      have o0 : 0 ≤ (m * (2 * t + 69069) + t * 40503 + 977) ^ (3 : Int).toNat % x1 := Int.emod_nonneg _ (by omega)
      have o1 : (m * (2 * t + 69069) + t * 40503 + 977) ^ (3 : Int).toNat % x1 < 2147483648 := Int.lt_trans (Int.emod_lt_of_pos _ q1) r1
      dsimp only
      generalize (m * (2 * t + 69069) + t * 40503 + 977) ^ (3 : Int).toNat % x1 = o at o0 o1 ⊢
      -- rest
      refine ⟨.int c, rfl, .inl ⟨c, rfl, c, 65537, rfl, rfl, (by decide : (0 : Int) < 65537), c % 65537, 5, rfl, rfl, ?_⟩⟩
      have s0 : 0 ≤ c % 65537 := Int.emod_nonneg _ (by decide)
      have s1 : c % 65537 < 65537 := Int.emod_lt_of_pos _ (by decide)
      dsimp only
      generalize c % 65537 = s2 at s0 s1 ⊢
      -- two
      have w0 : 0 ≤ o * (t + 3) := Int.mul_nonneg o0 (by omega)
      have w1 : o * (t + 3) ≤ 2147483648 * 1003 := Int.le_trans (Int.mul_le_mul_of_nonneg_right (by omega : o ≤ 2147483648) (by omega)) (Int.mul_le_mul_of_nonneg_left (by omega) (by decide))
      refine ⟨.int o, rfl, .int t, rfl, t, 3, rfl, rfl, o, t + 3, rfl, rfl, mulW (a := 64) (b := 64) (b64 o0 (by omega)) (b64 (by omega) (by omega)) (by decide), .int (s2 + 5), rfl, o * (t + 3), s2 + 5, rfl, rfl, o * (t + 3) + (s2 + 5), 5, rfl, rfl, ⟨by decide, by decide, b64 (by omega) (by omega)⟩, .inl ⟨_, rfl, _, rfl, .int t, rfl, t, 5, rfl, rfl, .inl ⟨t + 5, rfl, t + 5, 13, rfl, rfl, (by decide : (0 : Int) < 13), ?_⟩⟩⟩
      obtain ⟨x2, g2, q2, r2⟩ := prime_at (i := (t + 5) % 13) (Int.emod_nonneg _ (by decide)) (Int.emod_lt_of_pos _ (by decide))
      refine ⟨p3, _, (t + 5) % 13, .int x2, rfl, rfl, hp, g2, _, x2, rfl, rfl, q2, ?_⟩
      have u0 : 0 ≤ (o * (t + 3) + (s2 + 5)) ^ (5 : Int).toNat % x2 := Int.emod_nonneg _ (by omega)
      have u1 : (o * (t + 3) + (s2 + 5)) ^ (5 : Int).toNat % x2 < 2147483648 := Int.lt_trans (Int.emod_lt_of_pos _ q2) r2
      dsimp only
      generalize (o * (t + 3) + (s2 + 5)) ^ (5 : Int).toNat % x2 = y at u0 u1 ⊢
      -- three
      have z0 : 0 ≤ o % 1009 := Int.emod_nonneg _ (by decide)
      have z1 : o % 1009 < 1009 := Int.emod_lt_of_pos _ (by decide)
      refine ⟨.int y, rfl, .int o, rfl, .inl ⟨o, rfl, o, 1009, rfl, rfl, (by decide : (0 : Int) < 1009), y, o % 1009, rfl, rfl, .int t, rfl, y + o % 1009, t, rfl, rfl, y + o % 1009 + t, 3, rfl, rfl, ⟨by decide, by decide, b64 (by omega) (by omega)⟩, .inl ⟨_, rfl, _, rfl, .int t, rfl, t, 7, rfl, rfl, .inl ⟨t + 7, rfl, t + 7, 13, rfl, rfl, (by decide : (0 : Int) < 13), ?_⟩⟩⟩⟩
      obtain ⟨x3, g3, q3, r3⟩ := prime_at (i := (t + 7) % 13) (Int.emod_nonneg _ (by decide)) (Int.emod_lt_of_pos _ (by decide))
      refine ⟨p3, _, (t + 7) % 13, .int x3, rfl, rfl, hp, g3, _, x3, rfl, rfl, q3, ?_⟩
      have v0 : 0 ≤ (y + o % 1009 + t) ^ (3 : Int).toNat % x3 := Int.emod_nonneg _ (by omega)
      dsimp only
      generalize (y + o % 1009 + t) ^ (3 : Int).toNat % x3 = y3 at v0 ⊢
      -- return
      refine ⟨.int o, rfl, o, 2147483647, rfl, rfl, mulW (a := 64) (b := 64) (b64 o0 (by omega)) (b64 (by decide) (by decide)) (by decide), .int y, rfl, o * 2147483647, y, rfl, rfl, o * 2147483647 + y, 2147483647, rfl, rfl, mulW (a := 64) (b := 64) (b64 (by omega) (by omega)) (b64 (by decide) (by decide)) (by decide), .int y3, rfl, _, y3, rfl, rfl, ?_⟩
      exact k _ _ (by omega) e1
def spTake (K : PySem.W.Frag) : Sp := fun vs H Q _ => ∃ (p a : Addr) (m : Int) (N : Nat), vs = [.ref p, .int m] ∧ Pen H p a N ∧ 0 < m ∧ m < 1073741824 ∧ N ≤ 990 ∧ ∀ r H', 0 ≤ r → r < m → ExB p H H' → Pen H' p a (N + 1) → Q (.int r) H'
theorem ok__law_take (T : Txt K mg) : FnOk P w K mg base CX0 2 T.d__law_take.a T.d__law_take.fd ["_law_pen", "_law_many"] (spTake K) := by
  refine T.d__law_take.F.ok sc__law_take (fun vs H Q E h => ?_) (fun cdv A outer s H vs Q E hr h => ?_)
  · obtain ⟨p, a, m, N, rfl, _⟩ := h
    rfl
  · obtain ⟨p, a, m, N, rfl, ⟨cs, t, v, hp, ha, hne, t0, t1, v0, hlen⟩, m0, m1, hN, k⟩ := h
    refine ⟨_, (pss_cons (ps_if (pt_cmpR op_lt (pe_ix ix_list (pv 0) pe_int (fun _ _ => rfl)) (pv 1) (nomark _)) (pss_cons (ps_set (i := 2) sc__law_take.nd rfl (Or.inl rfl) (pe_ix ix_list (pv 0) pe_int (fun _ _ => rfl)))
      (pss_cons (ps_set (i := 3) sc__law_take.nd rfl (Or.inl rfl) pe_int)
      (pss_cons (ps_if (pt_cmpR op_lt (pv 2) (pe_callB call_len_seq (by rfl) T.n_len (by decide +kernel) (pa_cons (pe_ix ix_list (pv 0) pe_int (fun _ _ => rfl)) pa_nil)) (nomark _)) (pss_one (ps_set (i := 3) sc__law_take.nd rfl (Or.inl rfl) (pe_ix ix_list (pe_ix ix_list (pv 0) pe_int (fun _ _ => rfl)) (pv 2) (fun _ _ => rfl)))) (pss_one (ps_if (pt_cmpR op_gt (pe_callB call_len_seq (by rfl) T.n_len (by decide +kernel) (pa_cons (pe_ix ix_list (pv 0) pe_int (fun _ _ => rfl)) pa_nil)) pe_int (nomark _)) (pss_one (ps_set (i := 3) sc__law_take.nd rfl (Or.inl rfl) (pe_op op_mod (pe_callTy call_int1 (by rfl) T.n_int (by decide +kernel) (pa_cons (pe_ix ix_list (pe_ix ix_list (pv 0) pe_int (fun _ _ => rfl)) (pe_op op_mod (pe_callTy call_int1 (by rfl) T.n_int (by decide +kernel) (pa_cons (pe_op op_add (pe_op op_mulW (pv 2) pe_int) pe_int) pa_nil)) (pe_callB call_len_seq (by rfl) T.n_len (by decide +kernel) (pa_cons (pe_ix ix_list (pv 0) pe_int (fun _ _ => rfl)) pa_nil))) (fun _ _ => rfl)) pa_nil)) (pe_op op_add (pe_op op_pow pe_int pe_int) (pv 2))))) pss_nil)))
      (pss_cons (ps_asg (pe_op op_add (pv 2) pe_int) (pg_sub (pv 0) pe_int set_list))
      (pss_one (ps_asg (pe_call (ok__law_spread T) (hr.mono (by decide)) (by rfl) T.d__law_spread.g T.d__law_spread.F.kp T.d__law_spread.b .nil pass0 (pa_cons (pv 3) (pa_cons (pv 2) pa_nil))) (pg_sub (pv 0) pe_int set_list))))))) pss_nil)
      (pss_cons (ps_set (i := 4) sc__law_take.nd rfl (Or.inl rfl) (pe_op op_mod (pe_callTy call_int1 (by rfl) T.n_int (by decide +kernel) (pa_cons (pe_ix ix_list (pv 0) pe_int (fun _ _ => rfl)) pa_nil)) (pv 1)))
      (pss_cons (ps_asg (pe_op op_fdivN (pe_ix ix_list (pv 0) pe_int (fun _ _ => rfl)) (pv 1)) (pg_sub (pv 0) pe_int set_list))
      (pss_one (ps_ret (pv 4)))))), ?_⟩
    have hP : ∀ {H : Hp}, H p = some (.lst [.ref a, .int t, .int v]) → SqL K H p [.ref a, .int t, .int v] := fun h => SqL.of h
    -- behind the if: the pen holds some rest
    refine s_join (fun σ H' => ∃ s2 s3 t' v', σ = [some (.ref p), some (.int m), s2, s3, none] ∧ H' p = some (.lst [.ref a, .int t', .int v']) ∧ ExB p H H' ∧ 0 ≤ t' ∧ t' ≤ N + 1 ∧ 0 ≤ v') (fun NX hNX => ?_) ?_
    · refine ⟨.ref p, rfl, p, _, 2, .int v, rfl, rfl, hP hp, rfl, .int m, rfl, v, m, rfl, rfl, _, rfl, ite2 (fun c => ?_) (fun c => ?_)⟩
      · refine ⟨.ref p, rfl, p, _, 1, .int t, rfl, rfl, hP hp, rfl, ?_⟩
        -- cell
        show tSeq (tAsg (tC (.int 0)) (gName 3)) _ _ _ _
        refine n_seq (n_c ?_)
        dsimp only
        refine s_join (fun σ H'' => ∃ c : Int, σ = [some (.ref p), some (.int m), some (.int t), some (.int c), none] ∧ H'' = H) (fun NX2 h2 => ?_) ?_
        · refine ⟨.int t, rfl, .ref p, rfl, p, _, 0, .ref a, rfl, rfl, hP hp, rfl, a, _, rfl, .inl (SqL.of ha), t, _, rfl, rfl, _, rfl, ite2 (fun d => ?_) (fun d => ?_)⟩
          · have d' : t < (cs.map V.int).length := of_decide_eq_true d
            rw [List.length_map] at d'
            obtain ⟨x, hx⟩ := atI_map (ms := cs) t0 d'
            exact ⟨.ref p, rfl, p, _, 0, .ref a, rfl, rfl, hP hp, rfl, .int t, rfl, a, _, t, .int x, rfl, rfl, SqL.of ha, hx, h2 _ _ ⟨x, rfl, rfl⟩⟩
          · refine ⟨.ref p, rfl, p, _, 0, .ref a, rfl, rfl, hP hp, rfl, a, _, rfl, .inl (SqL.of ha), _, 0, rfl, rfl, _, rfl, ite2 (fun f => ?_) (fun f => ?_)⟩
            · have f' : 0 < ((cs.map V.int).length : Int) := of_decide_eq_true f
              have f2 := f'
              rw [List.length_map] at f2
              obtain ⟨x, hx⟩ := atI_map (ms := cs) (i := (t * 5 + 3) % (cs.length : Int)) (Int.emod_nonneg _ (by omega)) (Int.emod_lt_of_pos _ f2)
              refine ⟨.ref p, rfl, p, _, 0, .ref a, rfl, rfl, hP hp, rfl, .int t, rfl, t, 5, rfl, rfl, mulW (a := 64) (b := 64) (b64 t0 (by omega)) (b64 (by decide) (by decide)) (by decide), t * 5, 3, rfl, rfl, .inl ⟨t * 5 + 3, rfl, .ref p, rfl, p, _, 0, .ref a, rfl, rfl, hP hp, rfl, a, _, rfl, .inl (SqL.of ha), _, _, rfl, rfl, f', ?_⟩⟩
              rw [List.length_map]
              refine ⟨a, _, (t * 5 + 3) % (cs.length : Int), .int x, rfl, rfl, SqL.of ha, hx, .inl ⟨x, rfl, 10, 17, rfl, rfl, ⟨by decide, by decide, by decide⟩, .int t, rfl, _, t, rfl, rfl, x, _, rfl, rfl, ?_, h2 _ _ ⟨_, rfl, rfl⟩⟩⟩
              have e2 : (10 : Int) ^ (17 : Int).toNat = 100000000000000000 := by decide
              show (0 : Int) < (10 : Int) ^ (17 : Int).toNat + t
              omega
            · exact h2 _ _ ⟨0, rfl, rfl⟩
        rintro σ H'' ⟨c1, rfl, rfl⟩
        -- pen[1] = at + 1
        refine ⟨.int t, rfl, t, 1, rfl, rfl, .ref p, rfl, p, _, 1, 1, rfl, rfl, hp, rfl, ?_⟩
        -- pen[2] = spread(cell, at)
        refine ⟨.int c1, rfl, .int t, rfl, c1, t, rfl, t0, by omega, fun v' H3 w0 e3 => ?_⟩
        refine ⟨.ref p, rfl, p, [.ref a, .int (t + 1), .int v], 2, 2, rfl, rfl, e3 _ _ upd_same, rfl, ?_⟩
        exact hNX _ _ ⟨_, _, t + 1, v', rfl, upd_same, ((ExB.upd (ExB.refl p H'')).trans (Ex.b e3)).upd, by omega, by omega, w0⟩
      · exact hNX _ _ ⟨_, _, t, v, rfl, hp, ExB.refl p H, t0, by omega, v0⟩
    · rintro σ H' ⟨s2, s3, t', v', rfl, hp', eb, a0, a1, b0⟩
      have hS : SqL K H' p [.ref a, .int t', .int v'] := SqL.of hp'
      refine ⟨.ref p, rfl, p, _, 2, .int v', rfl, rfl, hS, rfl, .inl ⟨v', rfl, .int m, rfl, v', m, rfl, rfl, m0, ?_⟩⟩
      refine ⟨.ref p, rfl, p, _, 2, .int v', rfl, rfl, hS, rfl, .int m, rfl, v', m, rfl, rfl, ⟨by omega, by omega⟩, .ref p, rfl, p, _, 2, 2, rfl, rfl, hp', rfl, ?_⟩
      refine ⟨_, rfl, k _ _ (Int.emod_nonneg _ (by omega)) (Int.emod_lt_of_pos _ m0) eb.upd ⟨cs, t', _, upd_same, ?_, hne, a0, by omega, ?_, hlen⟩⟩
      · rw [upd_ne hne]
        exact eb _ _ hne ha
      · rw [Int.fdiv_eq_ediv_of_nonneg v' (by omega)]
        exact Int.ediv_nonneg b0 (by omega)
def spAnew : Sp := fun vs H Q _ => ∃ (p a : Addr) (N : Nat), vs = [.ref p] ∧ Pen H p a N ∧ ∀ H', ExB p H H' → Pen H' p a N → Q (.ref p) H'
theorem ok__law_anew (T : Txt K mg) : FnOk P w K mg base CX0 1 T.d__law_anew.a T.d__law_anew.fd ["_law_pen"] spAnew := by
  refine T.d__law_anew.F.ok sc__law_anew (fun vs H Q E h => ?_) (fun cdv A outer s H vs Q E hr h => ?_)
  · obtain ⟨p, a, N, rfl, _⟩ := h
    rfl
  · obtain ⟨p, a, N, rfl, ⟨cs, t, v, hp, ha, hne, t0, t1, v0, hlen⟩, k⟩ := h
    refine ⟨_, (pss_cons (ps_asg pe_int (pg_sub (pv 0) pe_int set_list))
      (pss_one (ps_ret (pv 0)))), ?_⟩
    refine ⟨.ref p, rfl, p, _, 2, 2, rfl, rfl, hp, rfl, ?_⟩
    exact ⟨_, rfl, k _ (ExB.upd (ExB.refl p H)) ⟨cs, t, 0, upd_same, by rw [upd_ne hne]; exact ha, hne, t0, t1, by omega, hlen⟩⟩
def spOne (K : PySem.W.Frag) : Sp := fun vs H Q _ => ∃ (p a s : Addr) (xs : List V) (N : Nat), vs = [.ref p, .ref s] ∧ Pen H p a N ∧ H s = some (.lst xs) ∧ s ≠ p ∧ 0 < xs.length ∧ xs.length < 1073741824 ∧ N ≤ 990 ∧ ∀ (x : V) (H' : Hp), x ∈ xs → ExB p H H' → Pen H' p a (N + 1) → Q x H'
theorem ok__law_one (T : Txt K mg) : FnOk P w K mg base CX0 3 T.d__law_one.a T.d__law_one.fd ["_law_pen", "_law_some"] (spOne K) := by
  refine T.d__law_one.F.ok sc__law_one (fun vs H Q E h => ?_) (fun cdv A outer s H vs Q E hr h => ?_)
  · obtain ⟨p, a, s, xs, N, rfl, _⟩ := h
    rfl
  · obtain ⟨p, a, s, xs, N, rfl, hp, hs, hsp, l0, l1, hN, k⟩ := h
    refine ⟨_, (pss_one (ps_ret (pe_ix ix_list (pv 1) (pe_call (ok__law_take T) (hr.mono (by decide)) (by rfl) T.d__law_take.g T.d__law_take.F.kp T.d__law_take.b .nil pass0 (pa_cons (pv 0) (pa_cons (pe_callB call_len_seq (by rfl) T.n_len (by decide +kernel) (pa_cons (pv 1) pa_nil)) pa_nil))) (fun _ _ => rfl)))), ?_⟩
    refine ⟨_, rfl, _, rfl, .ref s, rfl, s, xs, rfl, .inl (SqL.of hs), p, a, _, N, rfl, hp, by omega, by omega, hN, fun r H' r0 r1 eb hp' => ?_⟩
    have hk : r.toNat < xs.length := by omega
    have hx := atI_nat (List.getElem?_eq_getElem hk)
    rw [show ((r.toNat : Nat) : Int) = r by omega] at hx
    exact ⟨s, xs, r, _, rfl, rfl, SqL.of (eb _ _ hsp hs), hx, k _ H' (List.getElem_mem hk) eb hp'⟩
theorem cut_map (ms : List Int) (lo hi : Option Int) : cutV (ms.map V.int) lo hi = ((ms.drop (HT.sIx ms.length 0 lo)).take (HT.sIx ms.length ms.length hi - HT.sIx ms.length 0 lo)).map V.int := by
  unfold cutV
  rw [List.length_map, ← List.map_drop, ← List.map_take]
def spOpen (K : PySem.W.Frag) : Sp := fun vs H Q _ => ∃ (a : Addr) (ns : List Int), vs = [.ref a] ∧ SqL K H a (ns.map V.int) ∧ ns.length ≤ 63 ∧ ∀ p c H', Ex H H' → Pen H' p c 0 → H p = none → Q (.ref p) H'
theorem ok__law_open (T : Txt K mg) : FnOk P w K mg base CX0 1 T.d__law_open.a T.d__law_open.fd ["_law_script"] (spOpen K) := by
  refine T.d__law_open.F.ok sc__law_open (fun vs H Q E h => ?_) (fun cdv A outer s H vs Q E hr h => ?_)
  · obtain ⟨a, ns, rfl, _⟩ := h
    rfl
  · obtain ⟨a, ns, rfl, hS, hl, k⟩ := h
    refine ⟨_, (pss_cons (ps_set (i := 1) sc__law_open.nd rfl (Or.inl rfl) (pe_callTy call_list_of (by rfl) T.n_list (by decide +kernel) (pa_cons (pe_slice sl_list (pv 0) po_none (po_some pe_int)) pa_nil)))
      (pss_cons (ps_for PassesOwn.never rfl (pi_enum (by rfl) T.n_enumerate (pa_cons (pe_slice sl_list (pv 0) (po_some pe_int) (po_some pe_int)) pa_nil)) (pg_tup (by rfl) (pgs_cons (pg_name (i := 2) sc__law_open.nd rfl (Or.inl rfl)) (pgs_cons (pg_name (i := 3) sc__law_open.nd rfl (Or.inl rfl)) pgs_nil))) (pss_one (ps_asg (pe_op op_add (pe_ix ix_list (pv 1) (pe_op op_mod (pe_callTy call_int1 (by rfl) T.n_int (by decide +kernel) (pa_cons (pv 2) pa_nil)) pe_int) (fun _ _ => rfl)) (pv 3)) (pg_sub (pv 1) (pe_op op_mod (pe_callTy call_int1 (by rfl) T.n_int (by decide +kernel) (pa_cons (pv 2) pa_nil)) pe_int) set_list))))
      (pss_one (ps_ret (pe_lst (pa_cons (pv 1) (pa_cons pe_int (pa_cons pe_int pa_nil)))))))), ?_⟩
    -- cells = list(script[:12])
    have e0 : ∀ n : Nat, HT.sIx n 0 none = 0 := fun n => HT.sIx_none n 0
    have e12 : HT.sIx ns.length ns.length (some 12) = min 12 ns.length := HT.sIx_nat ns.length ns.length 12
    have e12' : HT.sIx ns.length 0 (some 12) = min 12 ns.length := HT.sIx_nat ns.length 0 12
    generalize hms : (ns.drop (HT.sIx ns.length 0 (some 12))).take (HT.sIx ns.length ns.length (some 63) - HT.sIx ns.length 0 (some 12)) = ms
    have cm : cutV (ns.map V.int) (some 12) (some 63) = ms.map V.int := by
      rw [cut_map, hms]
    have cc : cutV (ns.map V.int) none (some 12) = (ns.take (min 12 ns.length)).map V.int := by
      rw [cut_map, e0, e12, List.drop_zero, Nat.sub_zero]
    have hml : 0 < ms.length → 12 ≤ ns.length := fun z => by
      rw [← hms, List.length_take, List.length_drop, e12'] at z
      omega
    refine ⟨.ref a, rfl, 12, rfl, a, _, rfl, hS, fun p1 f1 => ?_⟩
    rw [cc]
    have x1 := Ex.new (o := .lst ((ns.take (min 12 ns.length)).map V.int)) f1
    refine ⟨p1, _, rfl, .inl (SqL.of upd_same), fun p2 f2 => ?_⟩
    have x2 := Ex.new (o := .lst ((ns.take (min 12 ns.length)).map V.int)) f2
    have n2 : H p2 = none := fresh_back x1 f2
    -- for k, cell in enumerate(script[12:63])
    refine ⟨.ref a, rfl, 12, rfl, 63, rfl, a, _, rfl, ex_l (x1.trans x2) hS, fun p3 f3 => ?_⟩
    rw [cm]
    have x3 := Ex.new (o := .lst (ms.map V.int)) f3
    have n32 : p2 ≠ p3 := fun z => by
      rw [← z, upd_same] at f3
      cases f3
    have n3 : H p3 = none := fresh_back (x1.trans x2) f3
    refine ⟨p3, _, rfl, SqL.of upd_same, ?_⟩
    refine ⟨fun i m σ H' => m = ms.length - i ∧ i ≤ ms.length ∧ ∃ (s2 s3 : Option V) (cs : List Int), σ = [some (.ref a), some (.ref p2), s2, s3] ∧ Ex H H' ∧ H' p3 = some (.lst (ms.map V.int)) ∧ H' p2 = some (.lst (cs.map V.int)) ∧ cs.length = min 12 ns.length,
      ⟨ms.length, by omega, Nat.zero_le _, none, none, ns.take (min 12 ns.length), rfl, (x1.trans x2).trans x3, upd_same, by rw [upd_ne n32]; exact upd_same, by rw [List.length_take]; omega⟩, ?_⟩
    rintro i m σ H' ⟨rfl, hi, s2, s3, cs, rfl, ex, h3, h2, hcl⟩
    by_cases hlt : i < ms.length
    · refine .inr ⟨⟨_, V.int ms[i], SqL.of h3, by rw [List.getElem?_map, List.getElem?_eq_getElem hlt]; rfl⟩, fun σ' H'' => ∃ (s2 s3 : Option V) (cs : List Int), σ' = [some (.ref a), some (.ref p2), s2, s3] ∧ Ex H H'' ∧ H'' p3 = some (.lst (ms.map V.int)) ∧ H'' p2 = some (.lst (cs.map V.int)) ∧ cs.length = min 12 ns.length, fun σ' H'' q => ⟨ms.length - (i + 1), by omega, rfl, hlt, q⟩, fun x H'' y => ?_⟩
      obtain ⟨t, z, rfl, ft, rfl, hz⟩ := y
      have ez : z = V.int ms[i] := by
        have := hz _ (SqL.of h3)
        rw [List.getElem?_map, List.getElem?_eq_getElem hlt] at this
        exact (Option.some.inj this).symm
      subst ez
      have nt2 : p2 ≠ t := ne_of_none h2 ft
      have nt3 : p3 ≠ t := ne_of_none h3 ft
      have x4 := Ex.new (o := .tup [.int (i : Nat), .int ms[i]]) ft
      have g2 := x4 _ _ h2
      have hc12 : cs.length = 12 := by
        have := hml (by omega)
        omega
      have z0 : 0 ≤ (i : Int) % 12 := Int.emod_nonneg _ (by decide)
      have z1 : (i : Int) % 12 < 12 := Int.emod_lt_of_pos _ (by decide)
      obtain ⟨c, hc⟩ := atI_map (ms := cs) z0 (by omega)
      refine ⟨t, _, rfl, SqT.of upd_same, rfl, _, _, rfl, _, _, rfl, rfl, ?_⟩
      -- cells[k % 12] = cells[k % 12] + cell
      refine ⟨_, rfl, _, rfl, .inl ⟨_, rfl, _, 12, rfl, rfl, (by decide : (0 : Int) < 12), p2, _, (i : Int) % 12, .int c, rfl, rfl, SqL.of g2, hc, _, rfl, c, ms[i], rfl, rfl, ?_⟩⟩
      refine ⟨_, rfl, _, rfl, .inl ⟨_, rfl, _, 12, rfl, rfl, (by decide : (0 : Int) < 12), p2, _, (i : Int) % 12, ((i : Int) % 12).toNat, rfl, rfl, g2, ?_, ?_⟩⟩
      · unfold ixN
        rw [if_pos z0, if_pos (by rw [List.length_map]; omega)]
      · refine ⟨_, _, cs.set ((i : Int) % 12).toNat (c + ms[i]), rfl, ?_, ?_, ?_, ?_⟩
        · intro b o hb
          rw [upd_ne (ne_of_none hb n2)]
          exact x4 _ _ (ex _ _ hb)
        · rw [upd_ne n32.symm]
          exact x4 _ _ h3
        · rw [upd_same, List.map_set]
        · rw [List.length_set]
          exact hcl
    · refine .inl ⟨⟨_, SqL.of h3, by rw [List.length_map]; omega⟩, ?_⟩
      -- return [cells, 0, 0]
      refine ⟨_, rfl, by show 3 ≤ sizeLine; decide, fun p4 f4 => ?_⟩
      have n4 : p2 ≠ p4 := ne_of_none h2 f4
      exact k p4 p2 _ (ex.trans (Ex.new f4)) ⟨cs, 0, 0, upd_same, by rw [upd_ne n4]; exact h2, n4, by omega, by omega, by omega, by omega⟩ (fresh_back ex f4)
end
/-! ### the law's own gcd, its lowest terms -/
theorem nat_abs_if (n : Int) : (if n < 0 then -n else n) = ((n.natAbs : Nat) : Int) := by
  by_cases h : n < 0
  · rw [if_pos h]; omega
  · rw [if_neg h]; omega
section
variable {P : Program} {w : World} {K : PySem.W.Frag} {mg : Str → Option Value} {base : Heap}
def spGcd : Sp := fun vs H Q _ => ∃ n d : Int, vs = [.int n, .int d] ∧ n.natAbs * d.natAbs < 2 ^ 3990 ∧ Q (.int ((Nat.gcd n.natAbs d.natAbs : Nat) : Int)) H
theorem ok__law_common (T : Txt K mg) : FnOk P w K mg base CX0 1 T.d__law_common.a T.d__law_common.fd ["_law_one_here", "_law_other"] spGcd := by
  refine T.d__law_common.F.ok sc__law_common (fun vs H Q E h => ?_) (fun cdv A outer s H vs Q E hr h => ?_)
  · obtain ⟨n, d, rfl, _⟩ := h
    rfl
  · obtain ⟨n, d, rfl, hb, k⟩ := h
    refine ⟨_, (pss_cons (ps_par (i := 0) (j := 1) (by rfl) sc__law_common.nd rfl rfl (by decide) rfl rfl (pa_cons (pe_callB call_abs (by rfl) T.n_abs (by decide +kernel) (pa_cons (pv 0) pa_nil)) (pa_cons (pe_callB call_abs (by rfl) T.n_abs (by decide +kernel) (pa_cons (pv 1) pa_nil)) pa_nil)) (by rfl))
      (pss_cons (ps_for PassesOwn.never rfl (pi_range1 (by rfl) T.n_range (pa_cons pe_int pa_nil)) (pg_name (i := 2) sc__law_common.nd rfl (Or.inl rfl)) (pss_cons (ps_if (pt_cmpR op_eq (pv 1) pe_int (nomark _)) (pss_one (ps_ret (pv 0))) pss_nil)
      (pss_one (ps_par (i := 0) (j := 1) (by rfl) sc__law_common.nd rfl rfl (by decide) rfl rfl (pa_cons (pv 1) (pa_cons (pe_op op_mod (pe_callTy call_int1 (by rfl) T.n_int (by decide +kernel) (pa_cons (pv 0) pa_nil)) (pv 1)) pa_nil)) (by rfl)))))
      (pss_one (ps_ret pe_int)))), ?_⟩
    refine ⟨_, rfl, n, rfl, _, rfl, d, rfl, _, _, rfl, ?_⟩
    rw [nat_abs_if, nat_abs_if]
    refine ⟨4000, rfl, by decide, by decide, ?_⟩
    show ∃ W : Nat → Nat → L2.St → Hp → Prop, _
    refine for_range (lo := 0) (n := 4000) (fun i σ H' => i ≤ 3999 ∧ H' = H ∧ ∃ (a b : Nat) (s2 : Option V), σ = [some (.int (a : Int)), some (.int (b : Int)), s2] ∧ Nat.gcd a b = Nat.gcd n.natAbs d.natAbs ∧ EucEnds (3999 - i) a b)
      ⟨by decide, rfl, n.natAbs, d.natAbs, none, rfl, rfl, .inr (.inr ⟨by decide, lt_pow_mono (by decide : 3990 ≤ 3999 - 0 - 2) hb⟩)⟩ ?_ ?_
    · rintro i σ H' hi ⟨h1, rfl, a, b, s2, rfl, hg, he⟩
      refine ⟨_, rfl, rfl, _, rfl, ite2 (fun c => ?_) (fun c => ?_)⟩
      · have c' : b = 0 := by
          have := V.int.inj (of_decide_eq_true c)
          omega
        subst c'
        have := gcd_end hg
        subst this
        exact ⟨_, rfl, k⟩
      · have c' : b ≠ 0 := fun z => c (decide_eq_true (by rw [z]; rfl))
        have h2 : i < 3999 := by
          by_cases h3 : i < 3999
          · exact h3
          · rw [show 3999 - i = 0 by omega] at he
            exact absurd he.zero c'
        refine ⟨_, rfl, _, rfl, .inl ⟨_, rfl, _, rfl, a, b, rfl, rfl, (by omega : (0 : Int) < (b : Int)), _, _, rfl, ?_⟩⟩
        refine ⟨h2, rfl, b, a % b, some (.int (0 + (i : Int))), ?_, gcd_step hg, ?_⟩
        · rw [Int.natCast_emod]
          rfl
        · rw [show 3999 - i = (3999 - (i + 1)) + 1 by omega] at he
          exact he.step c'
    · rintro σ H' ⟨h1, _⟩
      exact absurd h1 (by decide)
def spLowL (K : PySem.W.Frag) : Sp := fun vs H Q _ => ∃ (n d : Int) (b : Nat), vs = [.int n, .int d] ∧ d ≠ 0 ∧ n.natAbs < 2 ^ b ∧ d.natAbs < 2 ^ b ∧ b ≤ 1900 ∧ ∀ z H', Ex H H' → Fr K b (Rat.divInt n d) z H' → Q z H'
theorem ok__law_low (T : Txt K mg) : FnOk P w K mg base CX0 2 T.d__law_low.a T.d__law_low.fd ["_law_top", "_law_bottom"] (spLowL K) := by
  refine T.d__law_low.F.ok sc__law_low (fun vs H Q E h => ?_) (fun cdv A outer s H vs Q E hr h => ?_)
  · obtain ⟨n, d, b, rfl, _⟩ := h
    rfl
  · obtain ⟨n, d, b, rfl, hd, hn, hb, hl, k⟩ := h
    refine ⟨_, (pss_cons (ps_set (i := 2) sc__law_low.nd rfl (Or.inl rfl) (pe_call (ok__law_common T) (hr.mono (by decide)) (by rfl) T.d__law_common.g T.d__law_common.F.kp T.d__law_common.b .nil pass0 (pa_cons (pv 0) (pa_cons (pv 1) pa_nil))))
      (pss_cons (ps_set (i := 3) sc__law_low.nd rfl (Or.inl rfl) (pe_ifExp (pt_cmpR op_lt (pv 1) pe_int (nomark _)) (pe_un un_neg pe_int) pe_int))
      (pss_one (ps_ret (pe_tup (pa_cons (pe_op op_fdivZ (pe_op op_mulW (pv 3) (pv 0)) (pv 2)) (pa_cons (pe_op op_fdivZ (pe_op op_mulW (pv 3) (pv 1)) (pv 2)) pa_nil))))))), ?_⟩
    refine ⟨_, rfl, _, rfl, n, d, rfl, lt_pow_mono (by omega : b + b ≤ 3990) (lt_pow_mul hn hb), ?_⟩
    have hG : Nat.gcd n.natAbs d.natAbs ≤ d.natAbs := Nat.gcd_le_right _ (by omega)
    have hp := gcd_pos (n := n) hd
    have hz : ∀ i : Int, CDivZ i ((Nat.gcd n.natAbs d.natAbs : Nat) : Int) := fun _ => ⟨by omega, by
      have : ((Nat.gcd n.natAbs d.natAbs : Nat) : Int).natAbs = Nat.gcd n.natAbs d.natAbs := by omega
      rw [this]
      exact log_lt (Nat.lt_of_le_of_lt hG hb) (by omega : b ≤ 9000) (by decide)⟩
    have fd : ∀ i : Int, i.fdiv ((Nat.gcd n.natAbs d.natAbs : Nat) : Int) = i / ((Nat.gcd n.natAbs d.natAbs : Nat) : Int) := fun i => Int.fdiv_eq_ediv_of_nonneg i (by omega)
    have fin : ∀ s : Int, s = (if d < 0 then -1 else 1) → ∀ σ : L2.St, σ = [some (.int n), some (.int d), some (.int ((Nat.gcd n.natAbs d.natAbs : Nat) : Int)), some (.int s)] → ∀ D : Ends, (∀ z H', Ex H H' → Fr K b (Rat.divInt n d) z H' → D.rt z H') →
        tRet (tTup (tCons (tOp (rI CDivZ fun i j => .int (i.fdiv j)) (tOp (rI CMulW fun i j => .int (i * j)) (tVar 3) (tVar 0)) (tVar 2)) (tCons (tOp (rI CDivZ fun i j => .int (i.fdiv j)) (tOp (rI CMulW fun i j => .int (i * j)) (tVar 3) (tVar 1)) (tVar 2)) tNil))) D σ H := by
      rintro s hs σ rfl D kk
      have e := low_eq n d hd s hs
      have s64 : s.natAbs < 2 ^ 64 := by
        have : s.natAbs = 1 := by
          by_cases h : d < 0
          · rw [hs, if_pos h]; rfl
          · rw [hs, if_neg h]; rfl
        rw [this]
        decide
      exact s_retP (ep_tup (b := b) (ev_fdivZ (ev_mulW (ev_var rfl) (ev_var rfl) (mulW s64 hn (by omega))) (ev_var rfl) (hz _)) (ev_fdivZ (ev_mulW (ev_var rfl) (ev_var rfl) (mulW s64 hb (by omega))) (ev_var rfl) (hz _)) (by rw [fd]; exact e.1) (by rw [fd]; exact e.2) (bd_divInt hd hn hb)) fun z H1 e w => kk z H1 e w
    refine ⟨_, rfl, d, 0, rfl, rfl, _, rfl, ite2 (fun c => ?_) (fun c => ?_)⟩
    · have c' : d < 0 := of_decide_eq_true c
      refine ⟨1, rfl, ?_⟩
      exact fin (-1) (by rw [if_pos c']) _ rfl _ k
    · have c' : ¬ d < 0 := fun z => c (decide_eq_true z)
      exact fin 1 (by rw [if_neg c']) _ rfl _ k
end
/-! ### the law's own arithmetic -/
theorem n_next {D : Ends} {σ : L2.St} {H : Hp} (h : D.nx σ H) : tNext D σ H := h
section
variable {K : PySem.W.Frag} {σ : L2.St} {H : Hp} {ta tb : TE} {b c n : Nat} {q r : Rat}
def sp2L (K : PySem.W.Frag) (ok : Rat → Prop) (f : Rat → Rat → Rat) : Sp := fun vs H Q _ => ∃ (u v : V) (b c : Nat) (q r : Rat), vs = [u, v] ∧ Fr K b q u H ∧ Fr K c r v H ∧ b + c + 1 ≤ 1900 ∧ ok r ∧
  ∀ z H', Ex H H' → Fr K (b + c + 1) (f q r) z H' → Q z H'
theorem ep_2L {ok : Rat → Prop} {f : Rat → Rat → Rat} {E : XK} (ha : EvP ta σ H (Fr K b q)) (hb : EvP tb σ H (Fr K c r)) (hk : ok r) (hl : b + c + 1 ≤ 1900) (hn : b + c + 1 = n) : EvP (tCall (sp2L K ok f) [] E (tCons ta (tCons tb tNil))) σ H (Fr K n (f q r)) := fun H1 a Q k =>
  ha H1 a _ fun x H2 a2 g => hb H2 (a.trans a2) _ fun y H3 a3 h => ⟨x, y, b, c, q, r, rfl, g.ex a3, h, hl, hk, fun z H' e w => k z H' ((a2.trans a3).trans e) (by subst hn; exact w)⟩
theorem ep_LowL {E : XK} {x y : Int} (ha : Ev ta σ H (.int x)) (hb : Ev tb σ H (.int y)) (hd : y ≠ 0) (hx : x.natAbs < 2 ^ b) (hy : y.natAbs < 2 ^ b) (hl : b ≤ 1900) (hq : Rat.divInt x y = q) : EvP (tCall (spLowL K) [] E (tCons ta (tCons tb tNil))) σ H (Fr K b q) := fun H1 a Q k =>
  ha H1 a _ fun H2 a2 => hb H2 (a.trans a2) _ fun H3 a3 => ⟨x, y, b, rfl, hd, hx, hy, hl, fun z H' e w => k z H' ((a2.trans a3).trans e) (by subst hq; exact w)⟩
end
section
variable {P : Program} {w : World} {K : PySem.W.Frag} {mg : Str → Option Value} {base : Heap}
theorem ok__law_add (T : Txt K mg) : FnOk P w K mg base CX0 3 T.d__law_add.a T.d__law_add.fd ["_law_one_here", "_law_other"] (sp2L K (fun _ => True) fun q r => q + r) := by
  refine T.d__law_add.F.ok sc__law_add (fun vs H Q E h => ?_) (fun cdv A outer s H vs Q E hr h => ?_)
  · obtain ⟨u, v, b, c, q, r, rfl, _⟩ := h
    rfl
  · obtain ⟨u, v, b, c, q, r, rfl, f, g, hl, _, k⟩ := h
    refine ⟨_, (pss_one (ps_ret (pe_call (ok__law_low T) (hr.mono (by decide)) (by rfl) T.d__law_low.g T.d__law_low.F.kp T.d__law_low.b .nil pass0 (pa_cons (pe_op op_add (pe_op op_mulW (pe_ix ix_tup (pv 0) pe_int (fun _ _ => rfl)) (pe_ix ix_tup (pv 1) pe_int (fun _ _ => rfl))) (pe_op op_mulW (pe_ix ix_tup (pv 1) pe_int (fun _ _ => rfl)) (pe_ix ix_tup (pv 0) pe_int (fun _ _ => rfl)))) (pa_cons (pe_op op_mulW (pe_ix ix_tup (pv 0) pe_int (fun _ _ => rfl)) (pe_ix ix_tup (pv 1) pe_int (fun _ _ => rfl))) pa_nil))))), ?_⟩
    have F := @ep_var K (start n__law_add [u, v]) H u b q 0 rfl f
    have G := @ep_var K (start n__law_add [u, v]) H v c r 1 rfl g
    have x := f.bd
    have y := g.bd
    exact s_retP (ep_LowL (b := b + c + 1) (ev_add (ev_mulW (ev_0 F) (ev_1 G) (mulW x.1 (bd_den y) (by omega))) (ev_mulW (ev_0 G) (ev_1 F) (mulW y.1 (bd_den x) (by omega)))) (ev_mulW (ev_1 F) (ev_1 G) (mulW (bd_den x) (bd_den y) (by omega)))
      (Int.mul_ne_zero (den_ne q) (den_ne r)) (bn_add (bn_mul x.1 (bd_den y)) (by rw [Nat.add_comm b c]; exact bn_mul y.1 (bd_den x))) (lt_pow_mono (Nat.le_succ _) (bn_mul (bd_den x) (bd_den y))) hl (add_eq q r)) fun z H1 e w => k z H1 e w
theorem ok__law_sub (T : Txt K mg) : FnOk P w K mg base CX0 3 T.d__law_sub.a T.d__law_sub.fd ["_law_one_here", "_law_other"] (sp2L K (fun _ => True) fun q r => q - r) := by
  refine T.d__law_sub.F.ok sc__law_sub (fun vs H Q E h => ?_) (fun cdv A outer s H vs Q E hr h => ?_)
  · obtain ⟨u, v, b, c, q, r, rfl, _⟩ := h
    rfl
  · obtain ⟨u, v, b, c, q, r, rfl, f, g, hl, _, k⟩ := h
    refine ⟨_, (pss_one (ps_ret (pe_call (ok__law_low T) (hr.mono (by decide)) (by rfl) T.d__law_low.g T.d__law_low.F.kp T.d__law_low.b .nil pass0 (pa_cons (pe_op op_sub (pe_op op_mulW (pe_ix ix_tup (pv 0) pe_int (fun _ _ => rfl)) (pe_ix ix_tup (pv 1) pe_int (fun _ _ => rfl))) (pe_op op_mulW (pe_ix ix_tup (pv 1) pe_int (fun _ _ => rfl)) (pe_ix ix_tup (pv 0) pe_int (fun _ _ => rfl)))) (pa_cons (pe_op op_mulW (pe_ix ix_tup (pv 0) pe_int (fun _ _ => rfl)) (pe_ix ix_tup (pv 1) pe_int (fun _ _ => rfl))) pa_nil))))), ?_⟩
    have F := @ep_var K (start n__law_sub [u, v]) H u b q 0 rfl f
    have G := @ep_var K (start n__law_sub [u, v]) H v c r 1 rfl g
    have x := f.bd
    have y := g.bd
    exact s_retP (ep_LowL (b := b + c + 1) (ev_sub (ev_mulW (ev_0 F) (ev_1 G) (mulW x.1 (bd_den y) (by omega))) (ev_mulW (ev_0 G) (ev_1 F) (mulW y.1 (bd_den x) (by omega)))) (ev_mulW (ev_1 F) (ev_1 G) (mulW (bd_den x) (bd_den y) (by omega)))
      (Int.mul_ne_zero (den_ne q) (den_ne r)) (bn_sub (bn_mul x.1 (bd_den y)) (by rw [Nat.add_comm b c]; exact bn_mul y.1 (bd_den x))) (lt_pow_mono (Nat.le_succ _) (bn_mul (bd_den x) (bd_den y))) hl (sub_eq q r)) fun z H1 e w => k z H1 e w
theorem ok__law_mul (T : Txt K mg) : FnOk P w K mg base CX0 3 T.d__law_mul.a T.d__law_mul.fd ["_law_one_here", "_law_other"] (sp2L K (fun _ => True) fun q r => q * r) := by
  refine T.d__law_mul.F.ok sc__law_mul (fun vs H Q E h => ?_) (fun cdv A outer s H vs Q E hr h => ?_)
  · obtain ⟨u, v, b, c, q, r, rfl, _⟩ := h
    rfl
  · obtain ⟨u, v, b, c, q, r, rfl, f, g, hl, _, k⟩ := h
    refine ⟨_, (pss_one (ps_ret (pe_call (ok__law_low T) (hr.mono (by decide)) (by rfl) T.d__law_low.g T.d__law_low.F.kp T.d__law_low.b .nil pass0 (pa_cons (pe_op op_mulW (pe_ix ix_tup (pv 0) pe_int (fun _ _ => rfl)) (pe_ix ix_tup (pv 1) pe_int (fun _ _ => rfl))) (pa_cons (pe_op op_mulW (pe_ix ix_tup (pv 0) pe_int (fun _ _ => rfl)) (pe_ix ix_tup (pv 1) pe_int (fun _ _ => rfl))) pa_nil))))), ?_⟩
    have F := @ep_var K (start n__law_mul [u, v]) H u b q 0 rfl f
    have G := @ep_var K (start n__law_mul [u, v]) H v c r 1 rfl g
    have x := f.bd
    have y := g.bd
    exact s_retP (ep_LowL (b := b + c + 1) (ev_mulW (ev_0 F) (ev_0 G) (mulW x.1 y.1 (by omega))) (ev_mulW (ev_1 F) (ev_1 G) (mulW (bd_den x) (bd_den y) (by omega)))
      (Int.mul_ne_zero (den_ne q) (den_ne r)) (lt_pow_mono (Nat.le_succ _) (bn_mul x.1 y.1)) (lt_pow_mono (Nat.le_succ _) (bn_mul (bd_den x) (bd_den y))) hl (mul_eq q r)) fun z H1 e w => k z H1 e w
theorem ok__law_div (T : Txt K mg) : FnOk P w K mg base CX0 3 T.d__law_div.a T.d__law_div.fd ["_law_one_here", "_law_other"] (sp2L K (fun r => r ≠ 0) fun q r => q / r) := by
  refine T.d__law_div.F.ok sc__law_div (fun vs H Q E h => ?_) (fun cdv A outer s H vs Q E hr h => ?_)
  · obtain ⟨u, v, b, c, q, r, rfl, _⟩ := h
    rfl
  · obtain ⟨u, v, b, c, q, r, rfl, f, g, hl, h0, k⟩ := h
    refine ⟨_, (pss_one (ps_ret (pe_call (ok__law_low T) (hr.mono (by decide)) (by rfl) T.d__law_low.g T.d__law_low.F.kp T.d__law_low.b .nil pass0 (pa_cons (pe_op op_mulW (pe_ix ix_tup (pv 0) pe_int (fun _ _ => rfl)) (pe_ix ix_tup (pv 1) pe_int (fun _ _ => rfl))) (pa_cons (pe_op op_mulW (pe_ix ix_tup (pv 0) pe_int (fun _ _ => rfl)) (pe_ix ix_tup (pv 1) pe_int (fun _ _ => rfl))) pa_nil))))), ?_⟩
    have F := @ep_var K (start n__law_div [u, v]) H u b q 0 rfl f
    have G := @ep_var K (start n__law_div [u, v]) H v c r 1 rfl g
    have x := f.bd
    have y := g.bd
    exact s_retP (ep_LowL (b := b + c + 1) (ev_mulW (ev_0 F) (ev_1 G) (mulW x.1 (bd_den y) (by omega))) (ev_mulW (ev_1 F) (ev_0 G) (mulW (bd_den x) y.1 (by omega)))
      (Int.mul_ne_zero (den_ne q) (num_ne h0)) (lt_pow_mono (Nat.le_succ _) (bn_mul x.1 (bd_den y))) (lt_pow_mono (Nat.le_succ _) (bn_mul (bd_den x) y.1)) hl (div_eq q r)) fun z H1 e w => k z H1 e w
def sgn (n : Int) : Int := (if decide (0 < n) then 1 else 0) - (if decide (n < 0) then 1 else 0)
theorem sgn_cmp (q r : Rat) : sgn (q - r).num = cmp q r := by
  rw [← cmp_eq]
  unfold sgn
  by_cases h : (q - r).num = 0
  · rw [if_pos h, h]
    rfl
  · rw [if_neg h]
    by_cases h2 : 0 < (q - r).num
    · rw [if_pos h2, decide_eq_true h2, decide_eq_false (by omega)]
      rfl
    · rw [if_neg h2, decide_eq_false h2, decide_eq_true (by omega)]
      rfl
def spSign (K : PySem.W.Frag) : Sp := fun vs H Q _ => ∃ (u : V) (b : Nat) (q : Rat), vs = [u] ∧ Fr K b q u H ∧ ∀ H', Ex H H' → Q (.int (sgn q.num)) H'
theorem ok__law_sign (T : Txt K mg) : FnOk P w K mg base CX0 1 T.d__law_sign.a T.d__law_sign.fd ["_law_one_here"] (spSign K) := by
  refine T.d__law_sign.F.ok sc__law_sign (fun vs H Q E h => ?_) (fun cdv A outer s H vs Q E hr h => ?_)
  · obtain ⟨u, b, q, rfl, _⟩ := h
    rfl
  · obtain ⟨u, b, q, rfl, ⟨p, rfl, f, _⟩, k⟩ := h
    refine ⟨_, (pss_one (ps_ret (pe_op op_sub (pe_callTy call_int1 (by rfl) T.n_int (by decide +kernel) (pa_cons (pe_cmpR op_gt (pe_ix ix_tup (pv 0) pe_int (fun _ _ => rfl)) pe_int (nomark _)) pa_nil)) (pe_callTy call_int1 (by rfl) T.n_int (by decide +kernel) (pa_cons (pe_cmpR op_lt (pe_ix ix_tup (pv 0) pe_int (fun _ _ => rfl)) pe_int (nomark _)) pa_nil))))), ?_⟩
    refine ⟨_, rfl, p, _, 0, .int q.num, rfl, rfl, f, rfl, q.num, 0, rfl, rfl, .inr ⟨_, rfl, ?_⟩⟩
    refine ⟨_, rfl, p, _, 0, .int q.num, rfl, rfl, f, rfl, q.num, 0, rfl, rfl, .inr ⟨_, rfl, ?_⟩⟩
    exact ⟨_, _, rfl, rfl, k H (Ex.refl H)⟩
theorem ok__law_is_whole (T : Txt K mg) : FnOk P w K mg base CX0 1 T.d__law_is_whole.a T.d__law_is_whole.fd ["_law_value"] (spIsD K Any isWh) := by
  refine T.d__law_is_whole.F.ok sc__law_is_whole (fun vs H Q E h => ?_) (fun cdv A outer s H vs Q E hr h => ?_)
  · obtain ⟨p, v, d, rfl, _⟩ := h
    rfl
  · obtain ⟨p, v, d, rfl, hd, _, k⟩ := h
    refine ⟨_, (pss_one (ps_ret (pe_and (pe_callB call_isi (by rfl) T.n_isinstance (by decide +kernel) (pa_cons (pv 0) (pa_cons (pe_bltn (v := .ty "int") (by rfl) T.n_int (by decide +kernel) rfl) pa_nil))) (pe_one (pe_not (pe_callB call_isi (by rfl) T.n_isinstance (by decide +kernel) (pa_cons (pv 0) (pa_cons (pe_bltn (v := .ty "bool") (by rfl) T.n_bool (by decide +kernel) rfl) pa_nil)))))))), ?_⟩
    refine s_ret (ev_andV (ev_isi rfl hd (kit_int d)) fun _ => ev_notV (ev_isi rfl hd (kit_bool d))) fun H1 e => ?_
    rw [wh_eq]
    exact k H1 e
/-- a pair of ints is one of small ones -/
def Sm (d : PyData) : Prop := ∀ n m, d = .tuple [.int n, .int m] → n.natAbs < 2 ^ 1000 ∧ m.natAbs < 2 ^ 1000
theorem low_same {n m : Int} (hm : 0 < m) : ((Rat.divInt n m).num = n ∧ ((Rat.divInt n m).den : Int) = m) ↔ Nat.gcd n.natAbs m.natAbs = 1 := by
  constructor
  · rintro ⟨h1, h2⟩
    have := red (Rat.divInt n m)
    rw [h1, h2] at this
    exact this
  · exact fun h => divInt_low hm h
theorem eqv_low {n m : Int} (hm : 0 < m) : PyData.eqv (frd (Rat.divInt n m)) (.tuple [.int n, .int m]) = decide (Nat.gcd n.natAbs m.natAbs = 1) := by
  have e := low_same (n := n) hm
  simp only [frd, PyData.eqv, PyData.eqvAll, Bool.and_true]
  rw [Bool.eq_iff_iff]
  simp [← e]
theorem ok__law_is (T : Txt K mg) : FnOk P w K mg base CX0 3 T.d__law_is.a T.d__law_is.fd ["_law_value"] (spIsD K Sm frB) := by
  refine T.d__law_is.F.ok sc__law_is (fun vs H Q E h => ?_) (fun cdv A outer s H vs Q E hr h => ?_)
  · obtain ⟨p, v, d, rfl, _⟩ := h
    rfl
  · obtain ⟨p, v, d, rfl, hd, hsm, k⟩ := h
    refine ⟨_, (pss_cons (ps_if (PW.pt (pw_or (pt_not (pt_val (pe_callB call_isi (by rfl) T.n_isinstance (by decide +kernel) (pa_cons (pv 0) (pa_cons (pe_bltn (v := .ty "tuple") (by rfl) T.n_tuple (by decide +kernel) rfl) pa_nil))))) (pw_or1 (pt_cmpR op_ne (pe_callB call_len_seq (by rfl) T.n_len (by decide +kernel) (pa_cons (pv 0) pa_nil)) pe_int (nomark _))))) (pss_one (ps_ret pe_bl)) pss_nil)
      (pss_cons (ps_if (PW.pt (pw_or (pt_not (pt_val (pe_call (ok__law_is_whole T) (hr.mono (by decide)) (by rfl) T.d__law_is_whole.g T.d__law_is_whole.F.kp T.d__law_is_whole.b .nil pass0 (pa_cons (pe_ix ix_tup (pv 0) pe_int (fun _ _ => rfl)) pa_nil)))) (pw_or1 (pt_not (pt_val (pe_call (ok__law_is_whole T) (hr.mono (by decide)) (by rfl) T.d__law_is_whole.g T.d__law_is_whole.F.kp T.d__law_is_whole.b .nil pass0 (pa_cons (pe_ix ix_tup (pv 0) pe_int (fun _ _ => rfl)) pa_nil))))))) (pss_one (ps_ret pe_bl)) pss_nil)
      (pss_one (ps_ret (pe_and (pe_cmpR op_gt (pe_ix ix_tup (pv 0) pe_int (fun _ _ => rfl)) pe_int (nomark _)) (pe_one (pe_cmpR (op_eqD hr.units) (pe_call (ok__law_low T) (hr.mono (by decide)) (by rfl) T.d__law_low.g T.d__law_low.F.kp T.d__law_low.b .nil pass0 (pa_cons (pe_ix ix_tup (pv 0) pe_int (fun _ _ => rfl)) (pa_cons (pe_ix ix_tup (pv 0) pe_int (fun _ _ => rfl)) pa_nil))) (pv 0) (nomark _)))))))), ?_⟩
    by_cases ht : isTup d = true
    · cases hd with
      | @tup a xs ds hS hA =>
        by_cases h2 : xs.length = 2
        · have h2' := h2
          rw [hA.len] at h2'
          obtain ⟨x1, x2, rfl⟩ : ∃ x1 x2, xs = [x1, x2] := match xs, h2 with | [x1, x2], _ => ⟨x1, x2, rfl⟩
          obtain ⟨d1, d2, rfl⟩ : ∃ d1 d2, ds = [d1, d2] := match ds, h2' with | [d1, d2], _ => ⟨d1, d2, rfl⟩
          have hD : Dq K p H (.ref a) (.tuple [d1, d2]) := .tup hS hA
          obtain ⟨q1, q2⟩ : Dq K p H x1 d1 ∧ Dq K p H x2 d2 := by
            cases hA with
            | cons a b =>
              cases b with
              | cons b c => exact ⟨a, b⟩
          have i1 : ∀ {H'}, Ex H H' → Ev (tOp (rIxT K) (tVar 0) (tC (.int 0))) [some (.ref a)] H' x1 := fun e => ev_op (ev_var rfl) ev_c (rv_ixT (ex_t e hS) rfl)
          have i2 : ∀ {H'}, Ex H H' → Ev (tOp (rIxT K) (tVar 0) (tC (.int 1))) [some (.ref a)] H' x2 := fun e => ev_op (ev_var rfl) ev_c (rv_ixT (ex_t e hS) rfl)
          refine s_if (b := false) (et_is (et_or (et_not (et_B (ev_isi rfl hD (kit_tup _)))) fun _ => et_test (fun H1 e Q k => ⟨_, rfl, a, _, rfl, .inr (ex_t e hS), rfl, k H1 (Ex.refl H1)⟩)) rfl) (fun z => nomatch z) fun _ H1 e1 => ?_
          refine s_if (b := !isWh d1 || !isWh d2) (et_or (et_not (et_B (ev_isD (i1 e1) (Dq.ex e1 _ _ q1) trivial))) fun _ => et_not (et_B (ev_isD (i2 e1) (Dq.ex e1 _ _ q2) trivial))) (fun z H2 e2 => ?_) (fun z H2 e2 => ?_)
          · have e : frB (.tuple [d1, d2]) = false := by
              cases d1 with
              | int n =>
                cases d2 with
                | int m => cases z
                | _ => rfl
              | _ => rfl
            rw [e] at k
            exact k H2 (e1.trans e2)
          · have w1 : isWh d1 = true := by
              cases h : isWh d1 with
              | true => rfl
              | false =>
                rw [h] at z
                cases z
            have w2 : isWh d2 = true := by
              cases h : isWh d2 with
              | true => rfl
              | false =>
                rw [h, w1] at z
                cases z
            obtain ⟨g1, g2⟩ := q1.ival w1
            obtain ⟨g3, g4⟩ := q2.ival w2
            generalize ival d1 = n at g1 g2
            generalize ival d2 = m at g3 g4
            subst g1 g2 g3 g4
            obtain ⟨b1, b2⟩ := hsm n m rfl
            have e12 := e1.trans e2
            refine n_next ?_
            dsimp only
            refine s_ret (v := .bl (frB (.tuple [.int n, .int m]))) ?_ (fun H3 e3 => k H3 (e12.trans e3))
            refine ev_is (ev_andV (a := decide (0 < m)) (b := decide (Nat.gcd n.natAbs m.natAbs = 1)) (ev_op (i2 e12) ev_c rv_I0) fun z' => ?_) rfl
            have hm : 0 < m := of_decide_eq_true z'
            intro H3 e3 Q kk
            refine (ep_LowL (b := 1000) (i1 e12) (i2 e12) (by omega) b1 b2 (by decide) rfl) H3 e3 _ fun x H4 e4 g => ?_
            refine ⟨_, rfl, frd (Rat.divInt n m), .tuple [.int n, .int m], g.dp, .tup (ex_t (e12.trans (e3.trans e4)) hS) (.cons (.int _) (.cons (.int _) .nil)), rfl, rfl, ?_⟩
            rw [eqv_low hm]
            exact kk H4 e4
        · refine s_if (b := true) (et_is (et_or (et_not (et_B (ev_isi rfl (.tup hS hA) (kit_tup _)))) fun _ => et_test (fun H1 e Q k => ⟨_, rfl, a, _, rfl, .inr (ex_t e hS), rfl, k H1 (Ex.refl H1)⟩)) ?_) (fun _ H1 e1 => ?_) (fun z => nomatch z)
          · have : ¬ V.int (xs.length : Int) = V.int 2 := fun z => h2 (by
              have := V.int.inj z
              omega)
            simp [isTup, this]
          · have e : frB (.tuple ds) = false := by
              have := hA.len
              match ds, this with
              | [], _ => rfl
              | [_], _ => simp [frB]
              | [_, _], h => exact absurd h h2
              | _ :: _ :: _ :: _, _ => simp [frB]
            rw [e] at k
            exact k H1 e1
      | _ => cases ht
    · have e : frB d = false := by
        cases d <;> (first | rfl | exact absurd rfl ht)
      have ht' : isTup d = false := by simpa using ht
      refine s_if (b := true) (et_is (et_or (b := false) (et_not (et_B (ev_isi rfl hd (kit_tup d)))) fun z => ?_) ?_) (fun _ H1 e1 => ?_) (fun z => nomatch z)
      · rw [ht'] at z
        cases z
      · rw [ht']
        rfl
      · rw [e] at k
        exact k H1 e1
end
/-! ### data that is drawn, texts that are due -/
section
variable {K : PySem.W.Frag} {p : Addr} {σ : L2.St} {H H' : Hp} {te ta tb : TE} {v : V} {d : PyData} {ds : List PyData} {tt : TT}
mutual
theorem Dq.exb {xs : List V} (hp : H p = some (.lst xs)) (e : ExB p H H') : ∀ (d : PyData) (v : V), Dq K p H v d → Dq K p H' v d
  | _, _, .non => .non
  | _, _, .bl b => .bl b
  | _, _, .int i => .int i
  | _, _, .str x => .str x
  | _, _, .lst n m h hs => .lst n m (e _ _ n h) (DqAll.exb hp e _ _ hs)
  | _, _, .tup h hs => .tup (tup_lst hp e h) (DqAll.exb hp e _ _ hs)
  | _, _, .emp h => .emp (e _ _ (by rintro rfl; rw [hp] at h; cases h) h)
theorem DqAll.exb {xs : List V} (hp : H p = some (.lst xs)) (e : ExB p H H') : ∀ (ds : List PyData) (vs : List V), DqAll K p H vs ds → DqAll K p H' vs ds
  | _, _, .nil => .nil
  | _, _, .cons h hs => .cons (Dq.exb hp e _ _ h) (DqAll.exb hp e _ _ hs)
end
def EvD (K : PySem.W.Frag) (p : Addr) (te : TE) (σ : L2.St) (H : Hp) (d : PyData) : Prop := EvP te σ H fun v H => Dq K p H v d
def EvDs (K : PySem.W.Frag) (p : Addr) (ta : TA) (σ : L2.St) (H : Hp) (ds : List PyData) : Prop := ∀ H1, Ex H H1 → ∀ Q : List V → Hp → Prop, (∀ vs H2, Ex H1 H2 → DqAll K p H2 vs ds → Q vs H2) → ta σ H1 Q
theorem ed_ev (h : Ev te σ H v) (hd : ∀ H, Dq K p H v d) : EvD K p te σ H d := fun H1 e Q k => h H1 e Q fun H2 e2 => k v H2 e2 (hd H2)
theorem ed_var {i : Nat} (h : σ[i]? = some (some v)) (hd : Dq K p H v d) : EvD K p (tVar i) σ H d := fun H1 e _ k => ⟨v, h, k v H1 (Ex.refl H1) (Dq.ex e _ _ hd)⟩
theorem ed_int {n : Int} : EvD K p (tC (.int n)) σ H (.int n) := ed_ev ev_c fun _ => .int n
theorem ed_neg {n : Int} : EvD K p (tUn (rU fun i => .int (-i)) (tC (.int n))) σ H (.int (-n)) := ed_ev (ev_neg ev_c) fun _ => .int _
theorem ed_bool {b : Bool} : EvD K p (tC (.bl b)) σ H (.bool b) := ed_ev ev_c fun _ => .bl b
theorem ed_none : EvD K p (tC .non) σ H .none := ed_ev ev_c fun _ => .non
theorem ed_str {x : Str} : EvD K p (tC (.str x)) σ H (.str x) := ed_ev ev_c fun _ => .str x
theorem ed_fr {b : Nat} {q : Rat} (h : EvP te σ H (Fr K b q)) : EvD K p te σ H (frd q) := fun H1 e Q k => h H1 e Q fun v H2 e2 f => k v H2 e2 f.dq
theorem eds_nil : EvDs K p tNil σ H [] := fun H1 e Q k => k [] H1 (Ex.refl H1) .nil
theorem eds_cons {tr : TA} (h : EvD K p te σ H d) (hs : EvDs K p tr σ H ds) : EvDs K p (tCons te tr) σ H (d :: ds) := fun H1 e Q k =>
  h H1 e _ fun v H2 e2 q => hs H2 (e.trans e2) _ fun vs H3 e3 qs => k _ H3 (e2.trans e3) (.cons (Dq.ex e3 _ _ q) qs)
theorem ed_tup {ta : TA} (h : EvDs K p ta σ H ds) (hl : ds.length ≤ 1000) : EvD K p (tTup ta) σ H (.tuple ds) := fun H1 e Q k =>
  h H1 e _ fun vs H2 e2 qs => ⟨Nat.le_of_lt (small1000 (by rw [qs.len]; exact hl)), fun a fa => k _ _ (e2.trans (Ex.new fa)) (.tup (SqT.of upd_same) (DqAll.ex (Ex.new fa) _ _ qs))⟩
theorem ed_lst {ta : TA} {o : HO} (hp : H p = some o) (h : EvDs K p ta σ H ds) (hl : ds.length ≤ 1000) : EvD K p (tLstN ta) σ H (.list ds) := fun H1 e Q k =>
  h H1 e _ fun vs H2 e2 qs => ⟨Nat.le_of_lt (small1000 (by rw [qs.len]; exact hl)), fun a fa fm => k _ _ (e2.trans (Ex.new fa)) (.lst (ne_of_none (e2 _ _ (e _ _ hp)) fa).symm fm upd_same (DqAll.ex (Ex.new fa) _ _ qs))⟩
theorem ed_emp : EvD K p tDNewK σ H (.dict []) := fun H1 e Q k a fa => k _ _ (Ex.new fa) (.emp upd_same)
theorem ed_if {b : Bool} (h : EvT tt σ H b) (h1 : b = true → EvD K p ta σ H d) (h2 : b = false → EvD K p tb σ H d) : EvD K p (tIf tt ta tb) σ H d := fun H1 e Q k => h H1 e _ fun H2 e2 => by
  cases b with
  | true =>
    refine iteT ?_
    exact h1 rfl H2 (e.trans e2) Q fun v H3 e3 q => k v H3 (e2.trans e3) q
  | false =>
    refine iteF ?_
    exact h2 rfl H2 (e.trans e2) Q fun v H3 e3 q => k v H3 (e2.trans e3) q
/-- repr of data -/
theorem ev_repr {c e : Nat} (h : EvD K p te σ H d) (n : Nc c e d) (hc : c ≤ 1000000) (he : e ≤ 60) : Ev (tCB (rRepr K) (tCons te tNil)) σ H (.str d.shown) := fun H1 a Q k =>
  h H1 a _ fun v H2 e2 q => ⟨v, d, p, rfl, .inl q, n.sh, Nat.le_trans n.dp he, Nat.le_trans (n.len hc) (Nat.le_trans hc (by decide)), k H2 e2⟩
theorem ev_cat {x y : Str} (ha : Ev ta σ H (.str x)) (hb : Ev tb σ H (.str y)) (h : x.length + y.length ≤ sizeLine) : Ev (tOp (fun x y H Q => ∃ i j, x = .str i ∧ y = .str j ∧ i.length + j.length ≤ sizeLine ∧ Q (.str (i ++ j)) H) ta tb) σ H (.str (x ++ y)) :=
  ev_op ha hb fun H1 _ _ k => ⟨x, y, rfl, rfl, h, k H1 (Ex.refl H1)⟩
theorem ev_bad {c e : Nat} (h : EvD K p te σ H d) (n : Nc c e d) (hc : c ≤ 1000000) (he : e ≤ 60) : Ev (tOp (fun x y H Q => ∃ i j, x = .str i ∧ y = .str j ∧ i.length + j.length ≤ sizeLine ∧ Q (.str (i ++ j)) H) (tC (.str "bad")) (tCB (rRepr K) (tCons te tNil))) σ H (.str ("bad" ++ d.shown)) :=
  ev_cat ev_c (ev_repr h n hc he) (by
    have h1 := n.len hc
    have h2 : (("bad" : String) : Str).length = 3 := by decide
    have h3 : 1000003 ≤ sizeLine := by decide
    omega)
/-- drawn data -/
structure Good (d : PyData) : Prop where
  nc : Nc 1000 3 d
  iv : (ival d).natAbs < 2 ^ 100
  tp : ∀ n m, d = .tuple [.int n, .int m] → n.natAbs < 2 ^ 100 ∧ m.natAbs < 2 ^ 100
theorem Good.sm (h : Good d) : Sm d := fun n m e => ⟨lt_pow_mono (by decide) (h.tp n m e).1, lt_pow_mono (by decide) (h.tp n m e).2⟩
theorem Good.fq (h : Good d) : Bd 100 (frQ d) := by
  have z : Bd 100 0 := ⟨by decide, by decide⟩
  unfold frQ
  split
  · rename_i n m
    by_cases hm : m = 0
    · subst hm
      have e : Rat.divInt n 0 = 0 := Rat.divInt_zero _
      rw [e]
      exact z
    · obtain ⟨h1, h2⟩ := h.tp n m rfl
      exact bd_divInt hm h1 h2
  · exact z
theorem good_int {n : Int} (h : n.natAbs < 2 ^ 100) : Good (.int n) := ⟨(nc_int h (by decide) (by decide)).mono (by decide) (by decide), h, fun _ _ e => nomatch e⟩
theorem good_pair {n m : Int} (h : n.natAbs < 2 ^ 100) (h2 : m.natAbs < 2 ^ 100) : Good (.tuple [.int n, .int m]) := ⟨(nc_pair h h2 (by decide) (by decide)).mono (by decide) (by decide), (show (0 : Int).natAbs < 2 ^ 100 by decide), fun a b e => by
  simp only [PyData.tuple.injEq, List.cons.injEq, PyData.int.injEq, and_true] at e
  obtain ⟨rfl, rfl⟩ := e
  exact ⟨h, h2⟩⟩
theorem good_fr {q : Rat} (h : Bd 100 q) : Good (frd q) := good_pair h.1 (bd_den h)
/-- other data -/
theorem good_of {c e : Nat} (h : Nc c e d) (hc : c ≤ 1000) (he : e ≤ 3) (hi : isWh d = false) (hp : ∀ n m, d ≠ .tuple [.int n, .int m]) : Good d := by
  refine ⟨h.mono hc he, ?_, fun n m e => absurd e (hp n m)⟩
  cases d with
  | int n => cases hi
  | _ => show 0 < 2 ^ 100; decide
end
theorem n_name {i : Nat} {v : V} {σ : L2.St} {H : Hp} {N : L2.St → Hp → Prop} (h : N (σ.set i (some v)) H) : gName i v σ H N := h
/-! what is due -/
def res (w : Str) (q r : Rat) : PyData := if w = "compare" then .int (cmp q r) else if w = "plus" then frd (q + r) else if w = "minus" then frd (q - r) else if w = "times" then frd (q * r) else frd (q / r)
/-- which one is wrong: the first, the second -/
def wrong (w : Str) (d e : PyData) : Option Bool := if w = "fraction" then (if isWh d = false then some false else if isWh e = false then some true else if ival e = 0 then some true else none) else
  (if frB d = false then some false else if frB e = false then some true else if w = "over" ∧ frQ e = 0 then some true else none)
def resD (w : Str) (d e : PyData) : PyData := if w = "fraction" then frd (Rat.divInt (ival d) (ival e)) else res w (frQ d) (frQ e)
def txt (w : Str) (d e : PyData) : Str := match wrong w d e with
  | some false => "bad" ++ d.shown
  | some true => "bad" ++ e.shown
  | none => (resD w d e).shown
theorem bd_2 {q r : Rat} (x : Bd 100 q) (y : Bd 100 r) : Bd 201 (q + r) ∧ Bd 201 (q - r) ∧ Bd 201 (q * r) ∧ (r ≠ 0 → Bd 201 (q / r)) := by
  refine ⟨?_, ?_, ?_, fun h0 => ?_⟩
  · rw [← add_eq]
    exact bd_divInt (Int.mul_ne_zero (den_ne q) (den_ne r)) (bn_add (bn_mul x.1 (bd_den y)) (bn_mul y.1 (bd_den x))) (lt_pow_mono (Nat.le_succ _) (bn_mul (bd_den x) (bd_den y)))
  · rw [← sub_eq]
    exact bd_divInt (Int.mul_ne_zero (den_ne q) (den_ne r)) (bn_sub (bn_mul x.1 (bd_den y)) (bn_mul y.1 (bd_den x))) (lt_pow_mono (Nat.le_succ _) (bn_mul (bd_den x) (bd_den y)))
  · rw [← mul_eq]
    exact bd_divInt (Int.mul_ne_zero (den_ne q) (den_ne r)) (lt_pow_mono (Nat.le_succ _) (bn_mul x.1 y.1)) (lt_pow_mono (Nat.le_succ _) (bn_mul (bd_den x) (bd_den y)))
  · rw [← div_eq]
    exact bd_divInt (Int.mul_ne_zero (den_ne q) (num_ne h0)) (lt_pow_mono (Nat.le_succ _) (bn_mul x.1 (bd_den y))) (lt_pow_mono (Nat.le_succ _) (bn_mul (bd_den x) y.1))
theorem nc_cmp (q r : Rat) : Nc 1000 3 (.int (cmp q r)) := (nc_int (b := 64) (cmp_64 q r) (by decide) (by decide)).mono (by decide) (by decide)
theorem nc_frd {q : Rat} {b : Nat} (h : Bd b q) (h0 : 0 < b) (h1 : b ≤ 400) : Nc 1000 3 (frd q) := (nc_pair h.1 (bd_den h) h0 (by omega)).mono (by omega) (by decide)
section
variable {P : Program} {w : World} {K : PySem.W.Frag} {mg : Str → Option Value} {base : Heap}
def spAny (K : PySem.W.Frag) : Sp := fun vs H Q _ => ∃ (p a : Addr) (N : Nat), vs = [.ref p] ∧ Pen H p a N ∧ N ≤ 900 ∧ ∀ v d H', ExB p H H' → Pen H' p a (N + 5) → Dq K p H' v d → Good d → Q v H'
def menu1 : List PyData := [.none, .int 0, .int 1, .bool true, .str "1/2", .tuple [], .tuple [.int 1], .tuple [.int 1, .int 2, .int 3], .list [.int 1, .int 2], .tuple [.bool true, .int 2], .tuple [.int 1, .bool true], .tuple [.int 0, .int 2], .tuple [.int 2, .int 4], .tuple [.str "1", .int 2]]
def menu2 (n m : Int) : List PyData := [.tuple [.int n, .int m], .tuple [.int 1, .none], .tuple [.tuple [.int 1, .int 2], .tuple [.int 1, .int 2]], .dict [], .tuple [.int 0, .int 0], .tuple [.int 1, .int 0], .tuple [.int (-3), .int (-2)], .tuple [.int 1, .int (-2)]]
theorem good1 : ∀ d ∈ menu1, Good d := by
  have i1 : ∀ n : Int, n.natAbs < 2 ^ 8 → Nc 10 0 (.int n) := fun n h => nc_int (b := 8) h (by decide) (by decide)
  have s1 : Nc 20 0 (.str "1/2") := nc_str (by decide +kernel)
  have s2 : Nc 20 0 (.str "1") := nc_str (by decide +kernel)
  refine List.forall_mem_cons.mpr ⟨good_of nc_none (by decide) (by decide) rfl (fun _ _ e => nomatch e), List.forall_mem_cons.mpr ⟨good_int (by decide), List.forall_mem_cons.mpr ⟨good_int (by decide), List.forall_mem_cons.mpr ⟨good_of (nc_bool true) (by decide) (by decide) rfl (fun _ _ e => nomatch e), List.forall_mem_cons.mpr ⟨good_of s1 (by decide) (by decide) rfl (fun _ _ e => nomatch e), ?_⟩⟩⟩⟩⟩
  refine List.forall_mem_cons.mpr ⟨good_of (nc_tup (nca_nil (e := 0))) (by decide) (by decide) rfl (by simp), List.forall_mem_cons.mpr ⟨good_of (nc_tup (nca_cons (i1 1 (by decide)) nca_nil)) (by decide) (by decide) rfl (by simp), List.forall_mem_cons.mpr ⟨good_of (nc_tup (nca_cons (i1 1 (by decide)) (nca_cons (i1 2 (by decide)) (nca_cons (i1 3 (by decide)) nca_nil)))) (by decide) (by decide) rfl (by simp), ?_⟩⟩⟩
  refine List.forall_mem_cons.mpr ⟨good_of (nc_lst (nca_cons (i1 1 (by decide)) (nca_cons (i1 2 (by decide)) nca_nil))) (by decide) (by decide) rfl (fun _ _ e => nomatch e), List.forall_mem_cons.mpr ⟨good_of (nc_tup (nca_cons (nc_bool true) (nca_cons (i1 2 (by decide)) nca_nil))) (by decide) (by decide) rfl (by simp), List.forall_mem_cons.mpr ⟨good_of (nc_tup (nca_cons (i1 1 (by decide)) (nca_cons (nc_bool true) nca_nil))) (by decide) (by decide) rfl (by simp), ?_⟩⟩⟩
  exact List.forall_mem_cons.mpr ⟨good_pair (by decide) (by decide), List.forall_mem_cons.mpr ⟨good_pair (by decide) (by decide), List.forall_mem_cons.mpr ⟨good_of (nc_tup (nca_cons s2 (nca_cons (i1 2 (by decide)) nca_nil))) (by decide) (by decide) rfl (by simp), fun _ z => nomatch z⟩⟩⟩
theorem good2 {n m : Int} (hn : n.natAbs < 2 ^ 100) (hm : m.natAbs < 2 ^ 100) : ∀ d ∈ menu2 n m, Good d := by
  have i1 : ∀ n : Int, n.natAbs < 2 ^ 8 → Nc 10 0 (.int n) := fun n h => nc_int (b := 8) h (by decide) (by decide)
  have t1 : Nc 28 1 (.tuple [.int 1, .int 2]) := nc_tup (nca_cons (i1 1 (by decide)) (nca_cons (i1 2 (by decide)) nca_nil))
  refine List.forall_mem_cons.mpr ⟨good_pair hn hm, List.forall_mem_cons.mpr ⟨good_of (nc_tup (nca_cons (i1 1 (by decide)) (nca_cons nc_none nca_nil))) (by decide) (by decide) rfl (by simp), List.forall_mem_cons.mpr ⟨good_of (nc_tup (nca_cons t1 (nca_cons t1 nca_nil))) (by decide) (by decide) rfl (by simp), List.forall_mem_cons.mpr ⟨good_of nc_emp (by decide) (by decide) rfl (fun _ _ e => nomatch e), ?_⟩⟩⟩⟩
  exact List.forall_mem_cons.mpr ⟨good_pair (by decide) (by decide), List.forall_mem_cons.mpr ⟨good_pair (by decide) (by decide), List.forall_mem_cons.mpr ⟨good_pair (by decide) (by decide), List.forall_mem_cons.mpr ⟨good_pair (by decide) (by decide), fun _ z => nomatch z⟩⟩⟩⟩
/-- the written items, as the reading has them -/
def tI (n : Int) : TE := tC (.int n)
def tN (n : Int) : TE := tUn (rU fun i => .int (-i)) (tC (.int n))
def tP (a b : TE) : TE := tTup (tCons a (tCons b tNil))
def tM1 : TA := tCons (tC .non) (tCons (tI 0) (tCons (tI 1) (tCons (tC (.bl true)) (tCons (tC (.str "1/2")) (tCons (tTup tNil) (tCons (tTup (tCons (tI 1) tNil)) (tCons (tTup (tCons (tI 1) (tCons (tI 2) (tCons (tI 3) tNil)))) (tCons (tLstN (tCons (tI 1) (tCons (tI 2) tNil))) (tCons (tP (tC (.bl true)) (tI 2)) (tCons (tP (tI 1) (tC (.bl true))) (tCons (tP (tI 0) (tI 2)) (tCons (tP (tI 2) (tI 4)) (tCons (tP (tC (.str "1")) (tI 2)) tNil)))))))))))))
def tM2 : TA := tCons (tP (tVar 1) (tVar 2)) (tCons (tP (tI 1) (tC .non)) (tCons (tP (tP (tI 1) (tI 2)) (tP (tI 1) (tI 2))) (tCons tDNewK (tCons (tP (tI 0) (tI 0)) (tCons (tP (tI 1) (tI 0)) (tCons (tP (tN 3) (tN 2)) (tCons (tP (tI 1) (tN 2)) tNil)))))))
section
variable {K : PySem.W.Frag} {p : Addr} {σ : L2.St} {H : Hp} {a b : TE} {d e : PyData}
theorem ed_I {n : Int} : EvD K p (tI n) σ H (.int n) := ed_int
theorem ed_N {n : Int} : EvD K p (tN n) σ H (.int (-n)) := ed_neg
theorem ed_P (h : EvD K p a σ H d) (g : EvD K p b σ H e) : EvD K p (tP a b) σ H (.tuple [d, e]) := ed_tup (eds_cons h (eds_cons g eds_nil)) (by show 2 ≤ 1000; decide)
theorem m1 {o : HO} (hh : H p = some o) : EvDs K p tM1 σ H menu1 := by
  unfold tM1 menu1
  refine eds_cons ed_none (eds_cons ed_I (eds_cons ed_I (eds_cons ed_bool (eds_cons ed_str ?_))))
  refine eds_cons (ed_tup eds_nil (by show 0 ≤ 1000; decide)) (eds_cons (ed_tup (eds_cons ed_I eds_nil) (by show 1 ≤ 1000; decide)) ?_)
  refine eds_cons (ed_tup (eds_cons ed_I (eds_cons ed_I (eds_cons ed_I eds_nil))) (by show 3 ≤ 1000; decide)) (eds_cons (ed_lst hh (eds_cons ed_I (eds_cons ed_I eds_nil)) (by show 2 ≤ 1000; decide)) ?_)
  exact eds_cons (ed_P ed_bool ed_I) (eds_cons (ed_P ed_I ed_bool) (eds_cons (ed_P ed_I ed_I) (eds_cons (ed_P ed_I ed_I) (eds_cons (ed_P ed_str ed_I) eds_nil))))
theorem m2 {n m : Int} (h1 : σ[1]? = some (some (.int n))) (h2 : σ[2]? = some (some (.int m))) : EvDs K p tM2 σ H (menu2 n m) := by
  unfold tM2 menu2
  refine eds_cons (ed_P (ed_var h1 (.int n)) (ed_var h2 (.int m))) (eds_cons (ed_P ed_I ed_none) (eds_cons (ed_P (ed_P ed_I ed_I) (ed_P ed_I ed_I)) (eds_cons ed_emp ?_)))
  exact eds_cons (ed_P ed_I ed_I) (eds_cons (ed_P ed_I ed_I) (eds_cons (ed_P ed_N ed_N) (eds_cons (ed_P ed_I ed_N) eds_nil)))
theorem m1L {o : HO} (hh : H p = some o) : EvP (tLstN tM1) σ H (fun v H' => ∃ l vs, v = .ref l ∧ H' l = some (.lst vs) ∧ DqAll K p H' vs menu1) := fun H1 e Q k =>
  (m1 (K := K) hh) H1 e _ fun vs H2 e2 qs => ⟨Nat.le_of_lt (small1000 (by rw [qs.len]; decide)), fun l fl _ => k _ _ (e2.trans (Ex.new fl)) ⟨l, vs, rfl, upd_same, DqAll.ex (Ex.new fl) _ _ qs⟩⟩
theorem catL {n m : Int} {l : Addr} {vs px : List V} (h1 : σ[1]? = some (some (.int n))) (h2 : σ[2]? = some (some (.int m))) (h3 : σ[3]? = some (some (.ref l))) (hl : H l = some (.lst vs)) (hp : H p = some (.lst px)) (q1 : DqAll K p H vs menu1) :
    EvP (tOp rCat (tVar 3) (tLstN tM2)) σ H (fun v H' => ∃ l3 ys, v = .ref l3 ∧ l3 ≠ p ∧ H' l3 = some (.lst ys) ∧ DqAll K p H' ys (menu1 ++ menu2 n m)) := fun H1 e Q k => by
  refine ⟨.ref l, h3, ?_⟩
  refine (m2 (K := K) (p := p) h1 h2) H1 e _ fun ws H2 e2 q2 => ?_
  have lv : vs.length = 14 := q1.len
  have lw : ws.length = 8 := q2.len
  refine ⟨Nat.le_of_lt (small1000 (by omega)), fun l2 fl2 _ => ?_⟩
  have hl2 : H2 l = some (.lst vs) := e2 _ _ (e _ _ hl)
  have nl : l ≠ l2 := ne_of_none hl2 fl2
  refine ⟨l, l2, vs, ws, rfl, rfl, by rw [upd_ne nl]; exact hl2, upd_same, Nat.le_of_lt (small1000 (by omega)), fun l3 fl3 => ?_⟩
  have x2 := Ex.new (o := .lst ws) fl2
  have x3 := Ex.new (o := .lst (vs ++ ws)) fl3
  have n3 : l3 ≠ p := (ne_of_none (x2 _ _ (e2 _ _ (e _ _ hp))) fl3).symm
  exact k _ _ (e2.trans (x2.trans x3)) ⟨l3, vs ++ ws, rfl, n3, upd_same, (DqAll.ex (e.trans (e2.trans (x2.trans x3))) _ _ q1).append (DqAll.ex (x2.trans x3) _ _ q2)⟩
end
def SmallI (b : Nat) (x : V) : Prop := ∃ n : Int, x = .int n ∧ n.natAbs < 2 ^ b
theorem ok__law_any (T : Txt K mg) : FnOk P w K mg base CX0 4 T.d__law_any.a T.d__law_any.fd ["_law_pen"] (spAny K) := by
  refine T.d__law_any.F.ok sc__law_any (fun vs H Q E h => ?_) (fun cdv A outer s H vs Q E hr h => ?_)
  · obtain ⟨p, a, N, rfl, _⟩ := h
    rfl
  · obtain ⟨p, a, N, rfl, hp, hN, k⟩ := h
    refine ⟨_, (pss_cons (ps_set (i := 1) sc__law_any.nd rfl (Or.inl rfl) (pe_call (ok__law_one T) (hr.mono (by decide)) (by rfl) T.d__law_one.g T.d__law_one.F.kp T.d__law_one.b .nil pass0 (pa_cons (pv 0) (pa_cons (pe_lstN (pa_cons pe_int (pa_cons pe_int (pa_cons (pe_un un_neg pe_int) (pa_cons pe_int (pa_cons pe_int (pa_cons (pe_un un_neg pe_int) (pa_cons pe_int (pa_cons (pe_op op_sub (pe_op op_pow pe_int pe_int) pe_int) (pa_cons (pe_un un_neg (pe_op op_pow pe_int pe_int)) (pa_cons (pe_call (ok__law_take T) (hr.mono (by decide)) (by rfl) T.d__law_take.g T.d__law_take.F.kp T.d__law_take.b .nil pass0 (pa_cons (pv 0) (pa_cons (pe_op op_pow pe_int pe_int) pa_nil))) pa_nil))))))))))) pa_nil))))
      (pss_cons (ps_set (i := 2) sc__law_any.nd rfl (Or.inl rfl) (pe_call (ok__law_one T) (hr.mono (by decide)) (by rfl) T.d__law_one.g T.d__law_one.F.kp T.d__law_one.b .nil pass0 (pa_cons (pv 0) (pa_cons (pe_lstN (pa_cons pe_int (pa_cons pe_int (pa_cons pe_int (pa_cons pe_int (pa_cons pe_int (pa_cons pe_int (pa_cons (pe_op op_add (pe_op op_pow pe_int pe_int) pe_int) (pa_cons (pe_op op_add (pe_op op_pow pe_int pe_int) pe_int) (pa_cons pe_int (pa_cons (pe_un un_neg pe_int) (pa_cons (pe_un un_neg pe_int) pa_nil)))))))))))) pa_nil))))
      (pss_cons (ps_if (PW.pt (pw_and (pt_cmpR op_gt (pv 2) pe_int (nomark _)) (pw_and1 (pt_cmpR op_gt (pe_call (ok__law_take T) (hr.mono (by decide)) (by rfl) T.d__law_take.g T.d__law_take.F.kp T.d__law_take.b .nil pass0 (pa_cons (pv 0) (pa_cons pe_int pa_nil))) pe_int (nomark _))))) (pss_one (ps_ret (pe_call (ok__law_low T) (hr.mono (by decide)) (by rfl) T.d__law_low.g T.d__law_low.F.kp T.d__law_low.b .nil pass0 (pa_cons (pv 1) (pa_cons (pv 2) pa_nil))))) pss_nil)
      (pss_cons (ps_set (i := 3) sc__law_any.nd rfl (Or.inl rfl) (pe_lstN (pa_cons pe_non (pa_cons pe_int (pa_cons pe_int (pa_cons pe_bl (pa_cons pe_str (pa_cons (pe_tup pa_nil) (pa_cons (pe_tup (pa_cons pe_int pa_nil)) (pa_cons (pe_tup (pa_cons pe_int (pa_cons pe_int (pa_cons pe_int pa_nil)))) (pa_cons (pe_lstN (pa_cons pe_int (pa_cons pe_int pa_nil))) (pa_cons (pe_tup (pa_cons pe_bl (pa_cons pe_int pa_nil))) (pa_cons (pe_tup (pa_cons pe_int (pa_cons pe_bl pa_nil))) (pa_cons (pe_tup (pa_cons pe_int (pa_cons pe_int pa_nil))) (pa_cons (pe_tup (pa_cons pe_int (pa_cons pe_int pa_nil))) (pa_cons (pe_tup (pa_cons pe_str (pa_cons pe_int pa_nil))) pa_nil))))))))))))))))
      (pss_one (ps_ret (pe_call (ok__law_one T) (hr.mono (by decide)) (by rfl) T.d__law_one.g T.d__law_one.F.kp T.d__law_one.b .nil pass0 (pa_cons (pv 0) (pa_cons (pe_op op_cat (pv 3) (pe_lstN (pa_cons (pe_tup (pa_cons (pv 1) (pa_cons (pv 2) pa_nil))) (pa_cons (pe_tup (pa_cons pe_int (pa_cons pe_non pa_nil))) (pa_cons (pe_tup (pa_cons (pe_tup (pa_cons pe_int (pa_cons pe_int pa_nil))) (pa_cons (pe_tup (pa_cons pe_int (pa_cons pe_int pa_nil))) pa_nil))) (pa_cons pe_dnewK (pa_cons (pe_tup (pa_cons pe_int (pa_cons pe_int pa_nil))) (pa_cons (pe_tup (pa_cons pe_int (pa_cons pe_int pa_nil))) (pa_cons (pe_tup (pa_cons (pe_un un_neg pe_int) (pa_cons (pe_un un_neg pe_int) pa_nil))) (pa_cons (pe_tup (pa_cons pe_int (pa_cons (pe_un un_neg pe_int) pa_nil))) pa_nil)))))))))) pa_nil))))))))), ?_⟩
    refine ⟨.ref p, rfl, 1, rfl, 10, rfl, 10, 12, rfl, rfl, ⟨by decide, by decide, by decide⟩, _, 1, rfl, rfl, 10, 29, rfl, rfl, ⟨by decide, by decide, by decide⟩, _, rfl, .ref p, rfl, 10, 9, rfl, rfl, ⟨by decide, by decide, by decide⟩, p, a, _, N, rfl, hp, by decide, by decide, by omega, fun r H1 r0 r1 eb1 hp1 => ?_⟩
    refine ⟨by show 10 ≤ sizeLine; decide, fun s fs _ => ?_⟩
    have ns : s ≠ p := by
      obtain ⟨xs, hx⟩ := hp1.hasP
      exact (ne_of_none hx fs).symm
    refine ⟨p, a, s, _, N + 1, rfl, hp1.ex (Ex.new fs), upd_same, ns, by show 0 < 10; decide, by show 10 < 1073741824; decide, by omega, fun x H2 hx eb2 hp2 => ?_⟩
    have r9 : r < 1000000000 := by
      have : (10 : Int) ^ (9 : Int).toNat = 1000000000 := by decide
      have r1' : r < (10 : Int) ^ (9 : Int).toNat := r1
      omega
    obtain ⟨n, rfl, hn⟩ : SmallI 100 x := by
      refine List.forall_mem_cons.mpr ⟨⟨0, rfl, by decide⟩, List.forall_mem_cons.mpr ⟨⟨1, rfl, by decide⟩, List.forall_mem_cons.mpr ⟨⟨-1, rfl, by decide⟩, List.forall_mem_cons.mpr ⟨⟨2, rfl, by decide⟩, List.forall_mem_cons.mpr ⟨⟨6, rfl, by decide⟩, List.forall_mem_cons.mpr ⟨⟨-10, rfl, by decide⟩, List.forall_mem_cons.mpr ⟨⟨7, rfl, by decide⟩, List.forall_mem_cons.mpr ⟨⟨999999999999, rfl, by decide⟩,
        List.forall_mem_cons.mpr ⟨⟨-100000000000000000000000000000, rfl, by decide⟩, List.forall_mem_cons.mpr ⟨⟨r, rfl, ?_⟩, fun _ z => nomatch z⟩⟩⟩⟩⟩⟩⟩⟩⟩⟩ x hx
      exact lt_pow_mono (by decide : 64 ≤ 100) (b64 r0 (by omega))
    -- the bottom
    refine ⟨.ref p, rfl, 10, 12, rfl, rfl, ⟨by decide, by decide, by decide⟩, _, 39, rfl, rfl, 10, 29, rfl, rfl, ⟨by decide, by decide, by decide⟩, _, 1, rfl, rfl, 1, rfl, 6, rfl, by show 11 ≤ sizeLine; decide, fun s' fs' _ => ?_⟩
    have ns' : s' ≠ p := by
      obtain ⟨xs, hx⟩ := hp2.hasP
      exact (ne_of_none hx fs').symm
    refine ⟨p, a, s', _, N + 2, rfl, hp2.ex (Ex.new fs'), upd_same, ns', by show 0 < 11; decide, by show 11 < 1073741824; decide, by omega, fun y H4 hy eb4 hp4 => ?_⟩
    obtain ⟨d, rfl, hd⟩ : SmallI 100 y := by
      refine List.forall_mem_cons.mpr ⟨⟨1, rfl, by decide⟩, List.forall_mem_cons.mpr ⟨⟨1, rfl, by decide⟩, List.forall_mem_cons.mpr ⟨⟨2, rfl, by decide⟩, List.forall_mem_cons.mpr ⟨⟨3, rfl, by decide⟩, List.forall_mem_cons.mpr ⟨⟨4, rfl, by decide⟩, List.forall_mem_cons.mpr ⟨⟨6, rfl, by decide⟩, List.forall_mem_cons.mpr ⟨⟨1000000000039, rfl, by decide⟩,
        List.forall_mem_cons.mpr ⟨⟨100000000000000000000000000001, rfl, by decide⟩, List.forall_mem_cons.mpr ⟨⟨0, rfl, by decide⟩, List.forall_mem_cons.mpr ⟨⟨-1, rfl, by decide⟩, List.forall_mem_cons.mpr ⟨⟨-6, rfl, by decide⟩, fun _ z => nomatch z⟩⟩⟩⟩⟩⟩⟩⟩⟩⟩⟩ y hy
    have EB := ((eb1.trans (Ex.b (Ex.new fs))).trans eb2).trans ((Ex.b (Ex.new fs')).trans eb4)
    refine n_name ?_
    dsimp only
    refine s_join (fun σ H' => σ = [some (.ref p), some (.int n), some (.int d), none] ∧ ExB p H H' ∧ Pen H' p a (N + 4)) (fun NX hNX => ?_) ?_
    · refine ⟨.int d, rfl, d, 0, rfl, rfl, _, rfl, ite2 (fun c => ?_) (fun c => ?_)⟩
      · have c' : 0 < d := of_decide_eq_true c
        refine ⟨.ref p, rfl, p, a, 6, N + 3, rfl, hp4, by decide, by decide, by omega, fun r' H5 _ _ eb5 hp5 => ?_⟩
        refine ⟨r', 0, rfl, rfl, _, rfl, ite2 (fun _ => ?_) (fun _ => ?_)⟩
        · refine ⟨.int n, rfl, .int d, rfl, n, d, 100, rfl, by omega, hn, hd, by decide, fun z H6 e6 f => ?_⟩
          exact k z (frd (Rat.divInt n d)) H6 ((EB.trans eb5).trans (Ex.b e6)) ((hp5.ex e6).mono (by omega)) f.dq (good_fr f.bd)
        · exact hNX _ _ ⟨rfl, EB.trans eb5, hp5⟩
      · exact hNX _ _ ⟨rfl, EB, hp4.mono (by omega)⟩
    · rintro σ H5 ⟨rfl, eb5, hp5⟩
      obtain ⟨px, hpx⟩ := hp5.hasP
      refine n_seq ?_
      refine s_asgP (m1L (K := K) hpx) fun v1 H6 e6 hv => ?_
      obtain ⟨l, vs, rfl, hl, q1⟩ := hv
      refine ⟨.ref p, rfl, ?_⟩
      refine (catL (K := K) (p := p) (n := n) (m := d) (l := l) (vs := vs) (px := px) (σ := [some (.ref p), some (.int n), some (.int d), some (.ref l)]) rfl rfl rfl hl (e6 _ _ hpx) q1) H6 (Ex.refl _) _ fun v2 H8 e8 hv2 => ?_
      obtain ⟨l3, ys, rfl, n3, hl3, QQ⟩ := hv2
      have e9 := e6.trans e8
      have ly : ys.length = 22 := QQ.len
      refine ⟨p, a, l3, ys, N + 4, rfl, hp5.ex e9, hl3, n3, by omega, by omega, by omega, fun x H10 hx eb10 hp10 => ?_⟩
      obtain ⟨dx, hdx, qx⟩ := QQ.mem x hx
      have g : Good dx := by
        rcases List.mem_append.mp hdx with h | h
        · exact good1 dx h
        · exact good2 hn hd dx h
      exact k x dx H10 ((eb5.trans (Ex.b e9)).trans eb10) hp10 (Dq.exb (e9 _ _ hpx) eb10 _ _ qx) g
end
/-! ### tests that come out false -/
section
variable {K : PySem.W.Frag} {σ : L2.St} {H : Hp} {D : Ends} {t : TT} {tu tw : TS}
theorem yes_of {Q : Bool → Hp → Prop} (h : Q true H) : tYes σ H Q := h
theorem s_skip (h : EvT t σ H false) (k : ∀ H1, Ex H H1 → D.nx σ H1) : tIfS t tu tNext D σ H := s_if h (fun z => nomatch z) fun _ H1 e => k H1 e
theorem dec_ne {x y : Int} (h : x = y) : (!decide (V.int x = V.int y)) = false := by subst h; simp
theorem dec_neQ {x y : Rat} (h : x = y) : (!decide (x = y)) = false := by subst h; simp
theorem or_ff {a b : Bool} (h : a = false) (h' : b = false) : (a || b) = false := by subst h h'; rfl
/-- the test «two fractions differ» of two that are the same -/
theorem et_neF {ta tb : TE} {b c : Nat} {q r : Rat} (ha : EvP ta σ H (Fr K b q)) (hb : EvP tb σ H (Fr K c r)) (h : q = r) : EvT (tTest (tOp (rNeD K) ta tb)) σ H false := et_is (et_test (ev_neD ha hb)) (dec_neQ h)
theorem et_orF {t u : TT} (h1 : EvT t σ H false) (h2 : EvT u σ H false) : EvT (tOr t u) σ H false := et_is (et_or h1 fun _ => h2) rfl
/-- a written pair -/
theorem ep_lit {x y : Int} {q : Rat} {b : Nat} (e1 : x = q.num) (e2 : y = (q.den : Int)) (bd : Bd b q) : EvP (tTup (tCons (tC (.int x)) (tCons (tC (.int y)) tNil))) σ H (Fr K b q) := ep_tup ev_c ev_c e1 e2 bd
theorem ep_01 : EvP (tTup (tCons (tC (.int 0)) (tCons (tC (.int 1)) tNil))) σ H (Fr K 1 0) := ep_lit rfl rfl ⟨by decide, by decide⟩
end
/-! ### what is due, what is told -/
theorem ifT {c : Bool} {A B : Prop} (h : c = true) (x : A) : if c = true then A else B := by
  rw [if_pos h]
  exact x
theorem ifF {c : Bool} {A B : Prop} (h : c = false) (x : B) : if c = true then A else B := by
  rw [h]
  exact iteF x
theorem txt_f {w : Str} {d e : PyData} (h : w ≠ "fraction") (h1 : frB d = false) : txt w d e = "bad" ++ d.shown := by
  simp only [txt, wrong, if_neg h, if_pos h1]
theorem txt_s {w : Str} {d e : PyData} (h : w ≠ "fraction") (h1 : frB d = true) (h2 : frB e = false) : txt w d e = "bad" ++ e.shown := by
  simp only [txt, wrong, if_neg h, h1, h2, Bool.true_eq_false, if_false, if_true]
theorem txt_o {d e : PyData} (h1 : frB d = true) (h2 : frB e = true) (h3 : frQ e = 0) : txt "over" d e = "bad" ++ e.shown := by
  have h : ¬ (("over" : String) : Str) = "fraction" := by decide
  simp only [txt, wrong, if_neg h, h1, h2, h3, Bool.true_eq_false, if_false, and_self, if_true]
theorem txt_n {w : Str} {d e : PyData} (h : w ≠ "fraction") (h1 : frB d = true) (h2 : frB e = true) (h3 : ¬ (w = "over" ∧ frQ e = 0)) : txt w d e = (res w (frQ d) (frQ e)).shown := by
  simp only [txt, wrong, resD, if_neg h, h1, h2, if_neg h3, Bool.true_eq_false, if_false]
section
variable {K : PySem.W.Frag} {σ : L2.St} {H : Hp} {te ta tb : TE} {b : Nat} {q : Rat} {tt : TT} {c : Bool}
theorem ev_Sign {E : XK} (h : EvP te σ H (Fr K b q)) : Ev (tCall (spSign K) [] E (tCons te tNil)) σ H (.int (sgn q.num)) := fun H1 e Q k =>
  h H1 e _ fun v H2 e2 f => ⟨v, b, q, rfl, f, fun H' e' => k H' (e2.trans e')⟩
theorem ep_if {P : V → Hp → Prop} (h : EvT tt σ H c) (h1 : c = true → EvP ta σ H P) (h2 : c = false → EvP tb σ H P) : EvP (tIf tt ta tb) σ H P := fun H1 e Q k => h H1 e _ fun H2 e2 => by
  cases c with
  | true =>
    refine iteT ?_
    exact h1 rfl H2 (e.trans e2) Q fun v H3 e3 q => k v H3 (e2.trans e3) q
  | false =>
    refine iteF ?_
    exact h2 rfl H2 (e.trans e2) Q fun v H3 e3 q => k v H3 (e2.trans e3) q
/-- word == a written one -/
theorem et_w {w x : Str} {i : Nat} (h : σ[i]? = some (some (.str w))) {b : Bool} (hb : decide (V.str w = V.str x) = b) : EvT (tTest (tOp rEq (tVar i) (tC (.str x)))) σ H b := et_is (et_test (ev_op (ev_var h) ev_c (rv_eq rfl))) hb
end
section
variable {P : Program} {w : World} {K : PySem.W.Frag} {mg : Str → Option Value} {base : Heap}
def W5 (x : Str) : Prop := x = "plus" ∨ x = "minus" ∨ x = "times" ∨ x = "over" ∨ x = "compare"
theorem W5.ne {x : Str} (h : W5 x) : x ≠ "fraction" := by
  rcases h with rfl | rfl | rfl | rfl | rfl <;> decide
def spTxt (K : PySem.W.Frag) (ok : Str → Prop) : Sp := fun vs H Q _ => ∃ (p : Addr) (x : Str) (u v : V) (d e : PyData), vs = [.str x, u, v] ∧ ok x ∧ Dq K p H u d ∧ Dq K p H v e ∧ Good d ∧ Good e ∧ ∀ H', Ex H H' → Q (.str (txt x d e)) H'
theorem ok__law_due (T : Txt K mg) : FnG P w K mg base 4 T.d__law_due.a T.d__law_due.fd ["_law_word", "_law_one_here", "_law_other"] (spTxt K W5) := by
  refine okG T.d__law_due.F sc__law_due (fun vs H Q E h => ?_) (fun cdv A outer s H vs Q gd hr h => ?_)
  · obtain ⟨p, x, u, v, d, e, rfl, _⟩ := h
    rfl
  · obtain ⟨p, x, u, v, d, e, rfl, hw, hd, he, gd', ge, k⟩ := h
    have hu := hr.units
    have hne := hw.ne
    refine ⟨_, (pss_cons (ps_for PassesOwn.never rfl (pi_tup (pe_tup (pa_cons (pv 1) (pa_cons (pv 2) pa_nil)))) (pg_name (i := 3) sc__law_due.nd rfl (Or.inl rfl)) (pss_one (ps_if (pt_not (pt_val (pe_call (ok__law_is T) (hr.mono (by decide)) (by rfl) T.d__law_is.g T.d__law_is.F.kp T.d__law_is.b .nil pass0 (pa_cons (pv 3) pa_nil)))) (pss_one (ps_ret (pe_op op_add_str pe_str (pe_callB (call_repr gd hu) (by rfl) T.n_repr (by decide +kernel) (pa_cons (pv 3) pa_nil))))) pss_nil)))
      (pss_cons (ps_if (PW.pt (pw_and (pt_cmpR op_eq (pv 0) pe_str (nomark _)) (pw_and1 (pt_cmpR op_eq (pe_ix ix_tup (pv 2) pe_int (fun _ _ => rfl)) pe_int (nomark _))))) (pss_one (ps_ret (pe_op op_add_str pe_str (pe_callB (call_repr gd hu) (by rfl) T.n_repr (by decide +kernel) (pa_cons (pv 2) pa_nil))))) pss_nil)
      (pss_cons (ps_if (pt_cmpR op_eq (pv 0) pe_str (nomark _)) (pss_one (ps_ret (pe_callB (call_repr gd hu) (by rfl) T.n_repr (by decide +kernel) (pa_cons (pe_call (ok__law_sign T) (hr.mono (by decide)) (by rfl) T.d__law_sign.g T.d__law_sign.F.kp T.d__law_sign.b .nil pass0 (pa_cons (pe_call (ok__law_sub T) (hr.mono (by decide)) (by rfl) T.d__law_sub.g T.d__law_sub.F.kp T.d__law_sub.b .nil pass0 (pa_cons (pv 1) (pa_cons (pv 2) pa_nil))) pa_nil)) pa_nil)))) pss_nil)
      (pss_cons (ps_if (pt_cmpR op_in_seq (pv 0) (pe_tup (pa_cons pe_str (pa_cons pe_str pa_nil))) (by rfl)) (pss_one (ps_ret (pe_callB (call_repr gd hu) (by rfl) T.n_repr (by decide +kernel) (pa_cons (pe_ifExp (pt_cmpR op_eq (pv 0) pe_str (nomark _)) (pe_call (ok__law_add T) (hr.mono (by decide)) (by rfl) T.d__law_add.g T.d__law_add.F.kp T.d__law_add.b .nil pass0 (pa_cons (pv 1) (pa_cons (pv 2) pa_nil))) (pe_call (ok__law_sub T) (hr.mono (by decide)) (by rfl) T.d__law_sub.g T.d__law_sub.F.kp T.d__law_sub.b .nil pass0 (pa_cons (pv 1) (pa_cons (pv 2) pa_nil)))) pa_nil)))) pss_nil)
      (pss_one (ps_ret (pe_callB (call_repr gd hu) (by rfl) T.n_repr (by decide +kernel) (pa_cons (pe_ifExp (pt_cmpR op_eq (pv 0) pe_str (nomark _)) (pe_call (ok__law_mul T) (hr.mono (by decide)) (by rfl) T.d__law_mul.g T.d__law_mul.F.kp T.d__law_mul.b .nil pass0 (pa_cons (pv 1) (pa_cons (pv 2) pa_nil))) (pe_call (ok__law_div T) (hr.mono (by decide)) (by rfl) T.d__law_div.g T.d__law_div.F.kp T.d__law_div.b .nil pass0 (pa_cons (pv 1) (pa_cons (pv 2) pa_nil)))) pa_nil)))))))), ?_⟩
    refine ⟨u, rfl, v, rfl, by show 2 ≤ sizeLine; decide, fun tp ft => ?_⟩
    refine ⟨tp, rfl, ⟨_, SqT.of upd_same⟩, ?_⟩
    refine for_tup (K := K) (a := tp) (xs := [u, v]) (fun i σ H' => (∃ s3, σ = [some (.str x), some u, some v, s3]) ∧ H' tp = some (.tup [u, v]) ∧ Ex H H' ∧ (1 ≤ i → frB d = true) ∧ (2 ≤ i → frB e = true)) ⟨⟨none, rfl⟩, upd_same, Ex.new ft, fun z => by omega, fun z => by omega⟩ (fun i σ H' _ ⟨_, hp, _⟩ => SqT.of hp) ?_ ?_
    · rintro i y σ H1 hi ⟨⟨s3, rfl⟩, htp, e1, c1, c2⟩
      have hi2 : i = 0 ∨ i = 1 := by
        have : i < 2 := (List.getElem?_eq_some_iff.mp hi).1
        omega
      rcases hi2 with rfl | rfl
      · obtain rfl : u = y := Option.some.inj hi
        have D1 := Dq.ex e1 _ _ hd
        refine s_if (et_not (et_B (ev_isD (ev_var rfl) D1 gd'.sm))) (fun z H2 e2 => ?_) (fun z H2 e2 => ?_)
        · have z' : frB d = false := by simpa using z
          refine s_ret (ev_bad (p := p) (ed_var rfl (Dq.ex e2 _ _ D1)) gd'.nc (by decide) (by decide)) fun H3 e3 => ?_
          rw [← txt_f (e := e) hne z']
          exact k H3 (e1.trans (e2.trans e3))
        · exact ⟨⟨_, rfl⟩, e2 _ _ htp, e1.trans e2, fun _ => by simpa using z, fun z => by omega⟩
      · obtain rfl : v = y := Option.some.inj hi
        have D1 := Dq.ex e1 _ _ he
        have f1 := c1 (by omega)
        refine s_if (et_not (et_B (ev_isD (ev_var rfl) D1 ge.sm))) (fun z H2 e2 => ?_) (fun z H2 e2 => ?_)
        · have z' : frB e = false := by simpa using z
          refine s_ret (ev_bad (p := p) (ed_var rfl (Dq.ex e2 _ _ D1)) ge.nc (by decide) (by decide)) fun H3 e3 => ?_
          rw [← txt_s hne f1 z']
          exact k H3 (e1.trans (e2.trans e3))
        · exact ⟨⟨_, rfl⟩, e2 _ _ htp, e1.trans e2, fun _ => f1, fun _ => by simpa using z⟩
    · rintro σ H1 ⟨⟨s3, rfl⟩, _, e1, c1, c2⟩
      have f1 := c1 (by show 1 ≤ 2; decide)
      have f2 := c2 (by show 2 ≤ 2; decide)
      have F : ∀ {H'}, Ex H1 H' → Fr K 100 (frQ d) u H' := fun e' => (Dq.ex (e1.trans e') _ _ hd).fr f1 gd'.fq
      have G : ∀ {H'}, Ex H1 H' → Fr K 100 (frQ e) v H' := fun e' => (Dq.ex (e1.trans e') _ _ he).fr f2 ge.fq
      have B := bd_2 gd'.fq ge.fq
      have fin : ∀ {y : Str} {D : PyData}, y ≠ "fraction" → ¬ (y = "over" ∧ frQ e = 0) → res y (frQ d) (frQ e) = D → txt y d e = D.shown := fun h1 h2 h3 => by rw [txt_n h1 f1 f2 h2, h3]
      generalize frQ d = q at F B fin
      generalize hr0 : frQ e = r at G B fin
      dsimp only
      rcases hw with rfl | rfl | rfl | rfl | rfl
      · refine s_skip (et_is (et_and (a := false) (b := false) (et_w rfl (by decide)) (fun z => nomatch z)) rfl) fun H2 e2 => ?_
        refine s_skip (et_w rfl (by decide)) fun H3 e3 => ?_
        refine s_if (b := true) (et_is (et_test (ev_inU (ev_var rfl) (eu_tup (ea_cons ev_c (ea_cons ev_c ea_nil)) (by show 2 ≤ 100000; decide)) rfl rfl)) (by decide)) (fun _ H4 e4 => ?_) (fun z => nomatch z)
        have e5 := e2.trans (e3.trans e4)
        refine s_ret (ev_repr (p := p) (d := frd (q + r)) (ed_if (b := true) (et_w rfl (by decide)) (fun _ => ed_fr (ep_2L (ep_var rfl (F e5)) (ep_var rfl (G e5)) trivial (by decide) rfl)) (fun z => nomatch z)) (nc_frd (b := 201) B.1 (by decide) (by decide)) (by decide) (by decide)) fun H5 e6 => ?_
        rw [← fin hne (by rintro ⟨h, _⟩; exact absurd h (by decide)) (by unfold res; rw [if_neg (by decide), if_pos rfl])]
        exact k H5 (e1.trans (e5.trans e6))
      · refine s_skip (et_is (et_and (a := false) (b := false) (et_w rfl (by decide)) (fun z => nomatch z)) rfl) fun H2 e2 => ?_
        refine s_skip (et_w rfl (by decide)) fun H3 e3 => ?_
        refine s_if (b := true) (et_is (et_test (ev_inU (ev_var rfl) (eu_tup (ea_cons ev_c (ea_cons ev_c ea_nil)) (by show 2 ≤ 100000; decide)) rfl rfl)) (by decide)) (fun _ H4 e4 => ?_) (fun z => nomatch z)
        have e5 := e2.trans (e3.trans e4)
        refine s_ret (ev_repr (p := p) (d := frd (q - r)) (ed_if (b := false) (et_w rfl (by decide)) (fun z => nomatch z) (fun _ => ed_fr (ep_2L (ep_var rfl (F e5)) (ep_var rfl (G e5)) trivial (by decide) rfl))) (nc_frd (b := 201) B.2.1 (by decide) (by decide)) (by decide) (by decide)) fun H5 e6 => ?_
        rw [← fin hne (by rintro ⟨h, _⟩; exact absurd h (by decide)) (by unfold res; rw [if_neg (by decide), if_neg (by decide), if_pos rfl])]
        exact k H5 (e1.trans (e5.trans e6))
      · refine s_skip (et_is (et_and (a := false) (b := false) (et_w rfl (by decide)) (fun z => nomatch z)) rfl) fun H2 e2 => ?_
        refine s_skip (et_w rfl (by decide)) fun H3 e3 => ?_
        refine s_skip (et_is (et_test (ev_inU (ev_var rfl) (eu_tup (ea_cons ev_c (ea_cons ev_c ea_nil)) (by show 2 ≤ 100000; decide)) rfl rfl)) (by decide)) fun H4 e4 => ?_
        have e5 := e2.trans (e3.trans e4)
        refine s_ret (ev_repr (p := p) (d := frd (q * r)) (ed_if (b := true) (et_w rfl (by decide)) (fun _ => ed_fr (ep_2L (ep_var rfl (F e5)) (ep_var rfl (G e5)) trivial (by decide) rfl)) (fun z => nomatch z)) (nc_frd (b := 201) B.2.2.1 (by decide) (by decide)) (by decide) (by decide)) fun H5 e6 => ?_
        rw [← fin hne (by rintro ⟨h, _⟩; exact absurd h (by decide)) (by unfold res; rw [if_neg (by decide), if_neg (by decide), if_neg (by decide), if_pos rfl])]
        exact k H5 (e1.trans (e5.trans e6))
      · refine s_if (et_and (a := true) (b := decide (V.int r.num = V.int 0)) (et_w rfl (by decide)) (fun _ => et_test (ev_op (ev_0 (ep_var rfl (G (Ex.refl _)))) ev_c (rv_eq rfl)))) (fun z H2 e2 => ?_) (fun z H2 e2 => ?_)
        · have h0 : r = 0 := Rat.num_eq_zero.mp (V.int.inj (of_decide_eq_true (by simpa using z)))
          refine s_ret (ev_bad (p := p) (ed_var rfl (Dq.ex (e1.trans e2) _ _ he)) ge.nc (by decide) (by decide)) fun H3 e3 => ?_
          rw [← txt_o f1 f2 (hr0.trans h0)]
          exact k H3 (e1.trans (e2.trans e3))
        · have h0 : r ≠ 0 := fun z' => by
            rw [z'] at z
            exact absurd z (by decide)
          refine n_next ?_
          dsimp only
          refine s_skip (et_w rfl (by decide)) fun H3 e3 => ?_
          refine s_skip (et_is (et_test (ev_inU (ev_var rfl) (eu_tup (ea_cons ev_c (ea_cons ev_c ea_nil)) (by show 2 ≤ 100000; decide)) rfl rfl)) (by decide)) fun H4 e4 => ?_
          have e5 := e2.trans (e3.trans e4)
          refine s_ret (ev_repr (p := p) (d := frd (q / r)) (ed_if (b := false) (et_w rfl (by decide)) (fun z => nomatch z) (fun _ => ed_fr (ep_2L (ok := fun r => r ≠ 0) (f := fun q r => q / r) (ep_var rfl (F e5)) (ep_var rfl (G e5)) h0 (by decide) rfl))) (nc_frd (b := 201) (B.2.2.2 h0) (by decide) (by decide)) (by decide) (by decide)) fun H5 e6 => ?_
          rw [← fin hne (fun h => h0 h.2) (by unfold res; rw [if_neg (by decide), if_neg (by decide), if_neg (by decide), if_neg (by decide)])]
          exact k H5 (e1.trans (e5.trans e6))
      · refine s_skip (et_is (et_and (a := false) (b := false) (et_w rfl (by decide)) (fun z => nomatch z)) rfl) fun H2 e2 => ?_
        refine s_if (b := true) (et_w rfl (by decide)) (fun _ H3 e3 => ?_) (fun z => nomatch z)
        have e5 := e2.trans e3
        refine s_ret (ev_repr (p := p) (d := .int (cmp q r)) (ed_ev (by rw [← sgn_cmp]; exact ev_Sign (ep_2L (ep_var rfl (F e5)) (ep_var rfl (G e5)) trivial (by decide) rfl)) fun _ => .int _) (nc_cmp q r) (by decide) (by decide)) fun H5 e6 => ?_
        rw [← fin hne (by rintro ⟨h, _⟩; exact absurd h (by decide)) (by unfold res; rw [if_pos rfl])]
        exact k H5 (e1.trans (e5.trans e6))
end
/-! ### the call, and what is told of it -/
theorem wr_f {w : Str} {d e : PyData} (h : w ≠ "fraction") (h1 : frB d = false) : wrong w d e = some false := by
  simp only [wrong, if_neg h, if_pos h1]
theorem wr_s {w : Str} {d e : PyData} (h : w ≠ "fraction") (h1 : frB d = true) (h2 : frB e = false) : wrong w d e = some true := by
  simp only [wrong, if_neg h, h1, h2, Bool.true_eq_false, if_false, if_true]
theorem wr_o {d e : PyData} (h1 : frB d = true) (h2 : frB e = true) (h3 : frQ e = 0) : wrong "over" d e = some true := by
  have h : ¬ (("over" : String) : Str) = "fraction" := by decide
  simp only [wrong, if_neg h, h1, h2, h3, Bool.true_eq_false, if_false, and_self, if_true]
theorem wr_n {w : Str} {d e : PyData} (h : w ≠ "fraction") (h1 : frB d = true) (h2 : frB e = true) (h3 : ¬ (w = "over" ∧ frQ e = 0)) : wrong w d e = none := by
  simp only [wrong, if_neg h, h1, h2, if_neg h3, Bool.true_eq_false, if_false]
theorem wf_f {d e : PyData} (h1 : isWh d = false) : wrong "fraction" d e = some false := by
  simp only [wrong, if_true, if_pos h1]
theorem wf_s {d e : PyData} (h1 : isWh d = true) (h2 : isWh e = false) : wrong "fraction" d e = some true := by
  simp only [wrong, if_true, h1, h2, Bool.true_eq_false, if_false]
theorem wf_o {d e : PyData} (h1 : isWh d = true) (h2 : isWh e = true) (h3 : ival e = 0) : wrong "fraction" d e = some true := by
  simp only [wrong, if_true, h1, h2, h3, Bool.true_eq_false, if_false]
theorem wf_n {d e : PyData} (h1 : isWh d = true) (h2 : isWh e = true) (h3 : ival e ≠ 0) : wrong "fraction" d e = none := by
  simp only [wrong, if_true, h1, h2, if_neg h3, Bool.true_eq_false, if_false]
def W6 (x : Str) : Prop := W5 x ∨ x = "fraction"
theorem res_of {w : Str} {d e : PyData} {D : PyData} (h : w ≠ "fraction") (h1 : res w (frQ d) (frQ e) = D) : resD w d e = D := by
  unfold resD
  rw [if_neg h, h1]
theorem nc_resD {w : Str} {d e : PyData} (hw : W6 w) (gd : Good d) (ge : Good e) (h : wrong w d e = none) : Nc 1000 3 (resD w d e) := by
  have B := bd_2 gd.fq ge.fq
  rcases hw with hw | rfl
  · have hn := hw.ne
    unfold resD
    rw [if_neg hn]
    rcases hw with rfl | rfl | rfl | rfl | rfl
    · unfold res
      rw [if_neg (by decide), if_pos rfl]
      exact nc_frd B.1 (by decide) (by decide)
    · unfold res
      rw [if_neg (by decide), if_neg (by decide), if_pos rfl]
      exact nc_frd B.2.1 (by decide) (by decide)
    · unfold res
      rw [if_neg (by decide), if_neg (by decide), if_neg (by decide), if_pos rfl]
      exact nc_frd B.2.2.1 (by decide) (by decide)
    · unfold res
      rw [if_neg (by decide), if_neg (by decide), if_neg (by decide), if_neg (by decide)]
      refine nc_frd (B.2.2.2 fun z => ?_) (by decide) (by decide)
      cases h1 : frB d with
      | false => rw [wr_f hn h1] at h; cases h
      | true =>
        cases h2 : frB e with
        | false => rw [wr_s hn h1 h2] at h; cases h
        | true => rw [wr_o h1 h2 z] at h; cases h
    · unfold res
      rw [if_pos rfl]
      exact nc_cmp _ _
  · unfold resD
    rw [if_pos rfl]
    refine nc_frd (b := 100) ?_ (by decide) (by decide)
    by_cases hm : ival e = 0
    · rw [hm, Rat.divInt_zero]
      exact ⟨by decide, by decide⟩
    · exact bd_divInt hm gd.iv ge.iv
section
variable {P : Program} {w : World} {K : PySem.W.Frag} {mg : Str → Option Value} {base : Heap}
def spCall (K : PySem.W.Frag) (C : Addr) : Sp := fun vs H Q E => ∃ (p : Addr) (x : Str) (u v : V) (d e : PyData), vs = [.str x, u, v] ∧ W6 x ∧ Dq K p H u d ∧ Dq K p H v e ∧ Good d ∧ Good e ∧
  (wrong x d e = some false → Er C u H E) ∧ (wrong x d e = some true → Er C v H E) ∧ (wrong x d e = none → ∀ z H', Ex H H' → Dq K p H' z (resD x d e) → Q z H')
theorem ok__law_call (T : Txt K mg) : FnOk P w K mg base (L2.CX P w) 6 T.d__law_call.a T.d__law_call.fd ["_law_word", "_law_one_here", "_law_other"] (spCall K T.E_BadFraction.C) := by
  refine T.d__law_call.F.okX sc__law_call (fun vs H Q E h => ?_) (fun cdv A outer s H vs Q E hr h => ?_)
  · obtain ⟨p, x, u, v, d, e, rfl, _⟩ := h
    rfl
  · obtain ⟨p, x, u, v, d, e, rfl, hw, hd, he, gd', ge, k1, k2, k3⟩ := h
    refine ⟨_, (pss_cons (ps_if (pt_cmpR op_eq (pv 0) pe_str (nomark _)) (pss_one (ps_ret (pe_call (ok_plus T) (hr.mono (by decide)) (by rfl) T.d_plus.g T.d_plus.F.kp T.d_plus.b .nil (passes_call (takes_of rfl rfl rfl rfl) fun _ _ _ _ h => h) (pa_cons (pv 1) (pa_cons (pv 2) pa_nil))))) pss_nil)
      (pss_cons (ps_if (pt_cmpR op_eq (pv 0) pe_str (nomark _)) (pss_one (ps_ret (pe_call (ok_minus T) (hr.mono (by decide)) (by rfl) T.d_minus.g T.d_minus.F.kp T.d_minus.b .nil (passes_call (takes_of rfl rfl rfl rfl) fun _ _ _ _ h => h) (pa_cons (pv 1) (pa_cons (pv 2) pa_nil))))) pss_nil)
      (pss_cons (ps_if (pt_cmpR op_eq (pv 0) pe_str (nomark _)) (pss_one (ps_ret (pe_call (ok_times T) (hr.mono (by decide)) (by rfl) T.d_times.g T.d_times.F.kp T.d_times.b .nil (passes_call (takes_of rfl rfl rfl rfl) fun _ _ _ _ h => h) (pa_cons (pv 1) (pa_cons (pv 2) pa_nil))))) pss_nil)
      (pss_cons (ps_if (pt_cmpR op_eq (pv 0) pe_str (nomark _)) (pss_one (ps_ret (pe_call (ok_over T) (hr.mono (by decide)) (by rfl) T.d_over.g T.d_over.F.kp T.d_over.b .nil (passes_call (takes_of rfl rfl rfl rfl) fun _ _ _ _ h => h) (pa_cons (pv 1) (pa_cons (pv 2) pa_nil))))) pss_nil)
      (pss_one (ps_ret (pe_ifExp (pt_cmpR op_eq (pv 0) pe_str (nomark _)) (pe_call (ok_compare T) (hr.mono (by decide)) (by rfl) T.d_compare.g T.d_compare.F.kp T.d_compare.b .nil (passes_call (takes_of rfl rfl rfl rfl) fun _ _ _ _ h => h) (pa_cons (pv 1) (pa_cons (pv 2) pa_nil))) (pe_call (ok_fraction T) (hr.mono (by decide)) (by rfl) T.d_fraction.g T.d_fraction.F.kp T.d_fraction.b .nil (passes_call (takes_of rfl rfl rfl rfl) fun _ _ _ _ h => h) (pa_cons (pv 1) (pa_cons (pv 2) pa_nil)))))))))), ?_⟩
    rcases hw with hw | rfl
    · have hn := hw.ne
      rcases hw with rfl | rfl | rfl | rfl | rfl
      · refine ⟨_, rfl, rfl, _, rfl, ifT (by decide) ?_⟩
        refine ⟨u, rfl, v, rfl, p, u, v, d, e, rfl, hd, he, gd'.fq, ge.fq, fun h => k1 (wr_f hn h), fun h1 h2 => k2 (wr_s hn h1 h2), fun _ _ h => absurd trivial h, fun h1 h2 _ z H' ex f => k3 (wr_n hn h1 h2 (by rintro ⟨h, _⟩; exact absurd h (by decide))) z H' ex ?_⟩
        rw [res_of hn (by unfold res; rw [if_neg (by decide), if_pos rfl])]
        exact f.dq
      · refine ⟨_, rfl, rfl, _, rfl, ifF (by decide) ?_⟩
        refine ⟨_, rfl, rfl, _, rfl, ifT (by decide) ?_⟩
        refine ⟨u, rfl, v, rfl, p, u, v, d, e, rfl, hd, he, gd'.fq, ge.fq, fun h => k1 (wr_f hn h), fun h1 h2 => k2 (wr_s hn h1 h2), fun _ _ h => absurd trivial h, fun h1 h2 _ z H' ex f => k3 (wr_n hn h1 h2 (by rintro ⟨h, _⟩; exact absurd h (by decide))) z H' ex ?_⟩
        rw [res_of hn (by unfold res; rw [if_neg (by decide), if_neg (by decide), if_pos rfl])]
        exact f.dq
      · refine ⟨_, rfl, rfl, _, rfl, ifF (by decide) ?_⟩
        refine ⟨_, rfl, rfl, _, rfl, ifF (by decide) ?_⟩
        refine ⟨_, rfl, rfl, _, rfl, ifT (by decide) ?_⟩
        refine ⟨u, rfl, v, rfl, p, u, v, d, e, rfl, hd, he, gd'.fq, ge.fq, fun h => k1 (wr_f hn h), fun h1 h2 => k2 (wr_s hn h1 h2), fun _ _ h => absurd trivial h, fun h1 h2 _ z H' ex f => k3 (wr_n hn h1 h2 (by rintro ⟨h, _⟩; exact absurd h (by decide))) z H' ex ?_⟩
        rw [res_of hn (by unfold res; rw [if_neg (by decide), if_neg (by decide), if_neg (by decide), if_pos rfl])]
        exact f.dq
      · refine ⟨_, rfl, rfl, _, rfl, ifF (by decide) ?_⟩
        refine ⟨_, rfl, rfl, _, rfl, ifF (by decide) ?_⟩
        refine ⟨_, rfl, rfl, _, rfl, ifF (by decide) ?_⟩
        refine ⟨_, rfl, rfl, _, rfl, ifT (by decide) ?_⟩
        refine ⟨u, rfl, v, rfl, p, u, v, d, e, rfl, hd, he, gd'.fq, ge.fq, fun h => k1 (wr_f hn h), fun h1 h2 => k2 (wr_s hn h1 h2), fun h1 h2 h => k2 (wr_o h1 h2 (Classical.not_not.mp h)), fun h1 h2 h0 z H' ex f => k3 (wr_n hn h1 h2 (fun h => h0 h.2)) z H' ex ?_⟩
        rw [res_of hn (by unfold res; rw [if_neg (by decide), if_neg (by decide), if_neg (by decide), if_neg (by decide)])]
        exact f.dq
      · refine ⟨_, rfl, rfl, _, rfl, ifF (by decide) ?_⟩
        refine ⟨_, rfl, rfl, _, rfl, ifF (by decide) ?_⟩
        refine ⟨_, rfl, rfl, _, rfl, ifF (by decide) ?_⟩
        refine ⟨_, rfl, rfl, _, rfl, ifF (by decide) ?_⟩
        refine ⟨_, rfl, rfl, _, rfl, ifT (by decide) ?_⟩
        refine ⟨u, rfl, v, rfl, p, u, v, d, e, rfl, hd, he, gd'.fq, ge.fq, fun h => k1 (wr_f hn h), fun h1 h2 => k2 (wr_s hn h1 h2), fun _ _ h => absurd trivial h, fun h1 h2 _ z H' ex f => k3 (wr_n hn h1 h2 (by rintro ⟨h, _⟩; exact absurd h (by decide))) z H' ex ?_⟩
        rw [res_of hn (by unfold res; rw [if_pos rfl]), f]
        exact .int _
    · refine ⟨_, rfl, rfl, _, rfl, ifF (by decide) ?_⟩
      refine ⟨_, rfl, rfl, _, rfl, ifF (by decide) ?_⟩
      refine ⟨_, rfl, rfl, _, rfl, ifF (by decide) ?_⟩
      refine ⟨_, rfl, rfl, _, rfl, ifF (by decide) ?_⟩
      refine ⟨_, rfl, rfl, _, rfl, ifF (by decide) ?_⟩
      refine ⟨u, rfl, v, rfl, p, u, v, d, e, rfl, hd, he, gd'.iv, ge.iv, fun h => k1 (wf_f h), fun h1 h2 => k2 (wf_s h1 h2), fun h1 h2 h => k2 (wf_o h1 h2 h), fun h1 h2 h0 z H' ex f => k3 (wf_n h1 h2 h0) z H' ex ?_⟩
      show Dq K p H' z (resD "fraction" d e)
      unfold resD
      rw [if_pos rfl]
      exact f.dq
abbrev rCatS : R2 := fun x y H Q => ∃ i j, x = .str i ∧ y = .str j ∧ i.length + j.length ≤ sizeLine ∧ Q (.str (i ++ j)) H
def tb__law_told (K : PySem.W.Frag) (C : Addr) : WX → TS := fun W => tAsg (tCB (rRepr K) (tCons (tCallS (spCall K C) (WE W) (tCons (tVar 0) (tCons (tVar 1) (tCons (tVar 2) tNil)))) tNil)) (gName 4)
def ts__law_told (K : PySem.W.Frag) (C : Addr) : Addr → Value → Option Addr → TS := fun a cls dd => tAsg (tIf (tB (tCB (rIsD K a cls dd) (tCons (tVar 5) (tCons (tC (.ref C)) tNil)))) (tOp rCatS (tC (.str "bad")) (tCB (rRepr K) (tCons (tXf a cls dd C "value" (tVar 5)) tNil))) (tC (.str "other"))) (gName 4)
theorem ok__law_told (T : Txt K mg) : FnG P w K mg base 7 T.d__law_told.a T.d__law_told.fd ["_law_word", "_law_one_here", "_law_other"] (spTxt K W6) := by
  refine okG T.d__law_told.F sc__law_told (fun vs H Q E h => ?_) (fun cdv A outer s H vs Q gd hr h => ?_)
  · obtain ⟨p, x, u, v, d, e, rfl, _⟩ := h
    rfl
  · obtain ⟨p, x, u, v, d, e, rfl, hw, hd, he, gd', ge, k⟩ := h
    have hu := hr.units
    refine ⟨_, (pss_cons (ps_par (i := 3) (j := 4) (by rfl) sc__law_told.nd rfl rfl (by decide) rfl rfl (pa_cons (pe_callB (call_repr gd hu) (by rfl) T.n_repr (by decide +kernel) (pa_cons (pe_tup (pa_cons (pv 1) (pa_cons (pv 2) pa_nil))) pa_nil)) (pa_cons pe_str pa_nil)) (by rfl))
      (pss_cons (ps_try_as (i := 5) (tb := tb__law_told K T.E_BadFraction.C) (ts := ts__law_told K T.E_BadFraction.C) (Wout := fun _ _ _ _ => False) rfl rfl sc__law_told.nd rfl rfl ⟨by rfl, by decide, .inl T.M.g⟩ takes0 (fun W pn xe tk _ => (pss_one (ps_set (i := 4) sc__law_told.nd rfl (Or.inl rfl) (pe_callB (call_repr gd hu) (by rfl) T.n_repr (by decide +kernel) (pa_cons (pe_callS (ok__law_call T) (hr.mono (by decide)) (by rfl) T.d__law_call.g T.d__law_call.F.kp T.d__law_call.b (fun σ => passAt tk σ) (pa_cons (pv 0) (pa_cons (pv 1) (pa_cons (pv 2) pa_nil)))) pa_nil))))) (fun a oe cls d pn hz hf => (pss_one (ps_set (i := 4) sc__law_told.nd rfl (Or.inl rfl) (pe_ifExp (pt_val (pe_callB (call_isD hz hf) (by rfl) T.n_isinstance (by decide +kernel) (pa_cons (pv 5) (pa_cons (pe_glob (v := .ref T.E_BadFraction.C) rfl T.E_BadFraction.g rfl) pa_nil)))) (pe_op op_add_str pe_str (pe_callB (call_repr gd hu) (by rfl) T.n_repr (by decide +kernel) (pa_cons (pe_xf T.E_BadFraction.x.xf T.E_BadFraction.x.noV hz hf (pv 5)) pa_nil))) pe_str)))))
      (pss_one (ps_ret (pe_ifExp (pt_cmpR op_eq (pe_callB (call_repr gd hu) (by rfl) T.n_repr (by decide +kernel) (pa_cons (pe_tup (pa_cons (pv 1) (pa_cons (pv 2) pa_nil))) pa_nil)) (pv 3) (nomark _)) (pv 4) pe_str))))), ?_⟩
    have NP : Nc 3000 10 (.tuple [d, e]) := (nc_tup (nca_cons gd'.nc (nca_cons ge.nc nca_nil))).mono (by decide) (by decide)
    have DP : ∀ {σ : L2.St} {H' : Hp}, Ex H H' → σ[1]? = some (some u) → σ[2]? = some (some v) → EvD K p (tTup (tCons (tVar 1) (tCons (tVar 2) tNil))) σ H' (.tuple [d, e]) := fun ex h1 h2 => ed_tup (eds_cons (ed_var h1 (Dq.ex ex _ _ hd)) (eds_cons (ed_var h2 (Dq.ex ex _ _ he)) eds_nil)) (by show 2 ≤ 1000; decide)
    refine (ev_repr (DP (Ex.refl H) rfl rfl) NP (by decide) (by decide)) H (Ex.refl H) _ fun H1 e1 => ?_
    refine ⟨_, _, rfl, ?_⟩
    dsimp only
    refine s_join (fun σ H' => σ = [some (.str x), some u, some v, some (.str (PyData.tuple [d, e]).shown), some (.str (txt x d e)), none] ∧ Ex H H') (fun NX hNX => ?_) ?_
    · have bad3 : (("bad" : String) : Str).length = 3 := by decide
      have big : 1000003 ≤ sizeLine := by decide
      have suite : ∀ (y : V) (D : PyData), Dq K p H y D → Good D → txt x d e = "bad" ++ D.shown → ∀ (W : WX) (σ : L2.St), σ = [some (.str x), some u, some v, some (.str (PyData.tuple [d, e]).shown), some (.str ""), none] →
          (∀ dd kn H', Ex H1 H' → H' dd = some (.xd (kd kn y)) → ∀ a, H' a = none → ts__law_told K T.E_BadFraction.C a (.ref T.E_BadFraction.C) (some dd) { nx := fun σ' H'' => NX (σ'.set 5 none) H'', rt := Q } (σ.set 5 (some (.ref a))) H') := by
        rintro y D hy gD ht W σ rfl dd kn H' ex hdd a ha
        have n := gD.nc
        refine ⟨.ref a, rfl, T.E_BadFraction.C, T.E_BadFraction.C, dd, _, true, rfl, rfl, T.E_BadFraction.x.ec, rfl, hdd, kit_one _, true, rfl, iteT ?_⟩
        refine ⟨.ref a, rfl, rfl, rfl, dd, _, y, rfl, hdd, rfl, y, D, p, rfl, .inl (Dq.ex (e1.trans ex) _ _ hy), n.sh, Nat.le_trans n.dp (by decide), Nat.le_trans (n.len (by decide)) (by decide), _, _, rfl, rfl, ?_, ?_⟩
        · have := n.len (by decide)
          omega
        · exact hNX _ _ ⟨by rw [ht]; rfl, e1.trans ex⟩
      refine ⟨.str x, rfl, u, rfl, v, rfl, p, x, u, v, d, e, rfl, hw, Dq.ex e1 _ _ hd, Dq.ex e1 _ _ he, gd', ge, fun h dd kn H' ex hdd => ?_, fun h dd kn H' ex hdd => ?_, fun h z H' ex dz => ?_⟩
      · refine ⟨true, T.E_BadFraction.x.exm, fun _ a ha => suite u d hd gd' ?_ (fun _ _ _ _ => False) _ rfl dd kn H' ex hdd a ha, fun z => nomatch z⟩
        simp only [txt, h]
      · refine ⟨true, T.E_BadFraction.x.exm, fun _ a ha => suite v e he ge ?_ (fun _ _ _ _ => False) _ rfl dd kn H' ex hdd a ha, fun z => nomatch z⟩
        simp only [txt, h]
      · have n := nc_resD hw gd' ge h
        refine ⟨z, _, p, rfl, .inl dz, n.sh, Nat.le_trans n.dp (by decide), Nat.le_trans (n.len (by decide)) (by decide), ?_⟩
        refine hNX _ _ ⟨?_, e1.trans ex⟩
        have ht : txt x d e = (resD x d e).shown := by simp only [txt, h]
        rw [ht]
        rfl
    · rintro σ H2 ⟨rfl, ex⟩
      refine s_ret (v := .str (txt x d e)) (ev_if (b := true) (et_is (et_test (ev_op (ev_repr (DP ex rfl rfl) NP (by decide) (by decide)) (ev_var rfl) (rv_eq rfl))) (decide_eq_true rfl)) (fun _ => ev_var rfl) (fun z => nomatch z)) fun H3 e3 => k H3 (ex.trans e3)
end
/-! ### the law k01 -/
theorem txt_ff {d e : PyData} (h : isWh d = false) : txt "fraction" d e = "bad" ++ d.shown := by simp only [txt, wf_f h]
theorem txt_fs {d e : PyData} (h : isWh d = true) (h2 : isWh e = false) : txt "fraction" d e = "bad" ++ e.shown := by simp only [txt, wf_s h h2]
theorem txt_fo {d e : PyData} (h : isWh d = true) (h2 : isWh e = true) (h3 : ival e = 0) : txt "fraction" d e = "bad" ++ e.shown := by simp only [txt, wf_o h h2 h3]
theorem txt_fn {d e : PyData} (h : isWh d = true) (h2 : isWh e = true) (h3 : ival e ≠ 0) : txt "fraction" d e = (frd (Rat.divInt (ival d) (ival e))).shown := by
  simp only [txt, wf_n h h2 h3, resD, if_true]
def t10 : TE := tOp (rI CPow fun i j => .int (i ^ j.toNat)) (tC (.int 10)) (tC (.int 20))
def dTop : List PyData := [.int 0, .int 6, .int (-6), .int (10 ^ (20 : Int).toNat), .int (-7), .bool true, .none, .str "1", .tuple [.int 1, .int 2]]
def dBot : List PyData := [.int 1, .int (-4), .int 3, .int (10 ^ (20 : Int).toNat + 2), .int 0, .int 0, .bool false, .none, .int 2, .list [.int 1], .bool true, .tuple [.int 1, .int 2]]
def tTop : TA := tCons (tI 0) (tCons (tI 6) (tCons (tN 6) (tCons t10 (tCons (tN 7) (tCons (tC (.bl true)) (tCons (tC .non) (tCons (tC (.str "1")) (tCons (tP (tI 1) (tI 2)) tNil))))))))
def tBot : TA := tCons (tI 1) (tCons (tN 4) (tCons (tI 3) (tCons (tOp (rI0 fun i j => .int (i + j)) t10 (tI 2)) (tCons (tI 0) (tCons (tI 0) (tCons (tC (.bl false)) (tCons (tC .non) (tCons (tI 2) (tCons (tLstN (tCons (tI 1) tNil)) (tCons (tC (.bl true)) (tCons (tP (tI 1) (tI 2)) tNil)))))))))))
theorem goodTop : ∀ d ∈ dTop, Good d := by
  have s2 : Nc 20 0 (.str "1") := nc_str (by decide +kernel)
  refine List.forall_mem_cons.mpr ⟨good_int (by decide), List.forall_mem_cons.mpr ⟨good_int (by decide), List.forall_mem_cons.mpr ⟨good_int (by decide), List.forall_mem_cons.mpr ⟨good_int (by decide), List.forall_mem_cons.mpr ⟨good_int (by decide), ?_⟩⟩⟩⟩⟩
  exact List.forall_mem_cons.mpr ⟨good_of (nc_bool true) (by decide) (by decide) rfl (fun _ _ e => nomatch e), List.forall_mem_cons.mpr ⟨good_of nc_none (by decide) (by decide) rfl (fun _ _ e => nomatch e), List.forall_mem_cons.mpr ⟨good_of s2 (by decide) (by decide) rfl (fun _ _ e => nomatch e), List.forall_mem_cons.mpr ⟨good_pair (by decide) (by decide), fun _ z => nomatch z⟩⟩⟩⟩
theorem goodBot : ∀ d ∈ dBot, Good d := by
  have i1 : Nc 10 0 (.int 1) := nc_int (b := 8) (by decide) (by decide) (by decide)
  refine List.forall_mem_cons.mpr ⟨good_int (by decide), List.forall_mem_cons.mpr ⟨good_int (by decide), List.forall_mem_cons.mpr ⟨good_int (by decide), List.forall_mem_cons.mpr ⟨good_int (by decide), List.forall_mem_cons.mpr ⟨good_int (by decide), List.forall_mem_cons.mpr ⟨good_int (by decide), ?_⟩⟩⟩⟩⟩⟩
  refine List.forall_mem_cons.mpr ⟨good_of (nc_bool false) (by decide) (by decide) rfl (fun _ _ e => nomatch e), List.forall_mem_cons.mpr ⟨good_of nc_none (by decide) (by decide) rfl (fun _ _ e => nomatch e), List.forall_mem_cons.mpr ⟨good_int (by decide), ?_⟩⟩⟩
  exact List.forall_mem_cons.mpr ⟨good_of (nc_lst (nca_cons i1 nca_nil)) (by decide) (by decide) rfl (fun _ _ e => nomatch e), List.forall_mem_cons.mpr ⟨good_of (nc_bool true) (by decide) (by decide) rfl (fun _ _ e => nomatch e), List.forall_mem_cons.mpr ⟨good_pair (by decide) (by decide), fun _ z => nomatch z⟩⟩⟩
section
variable {K : PySem.W.Frag} {p a : Addr} {σ : L2.St} {H : Hp} {N : Nat} {D : Ends} {E E' : XK}
theorem ev_10 : Ev t10 σ H (.int (10 ^ (20 : Int).toNat)) := fun H1 e Q k => ⟨10, 20, rfl, rfl, ⟨by decide, by decide, by decide⟩, k H1 (Ex.refl H1)⟩
theorem mTop : EvDs K p tTop σ H dTop := by
  unfold tTop dTop
  exact eds_cons ed_I (eds_cons ed_I (eds_cons ed_N (eds_cons (ed_ev ev_10 fun _ => .int _) (eds_cons ed_N (eds_cons ed_bool (eds_cons ed_none (eds_cons ed_str (eds_cons (ed_P ed_I ed_I) eds_nil))))))))
theorem mBot {o : HO} (hh : H p = some o) : EvDs K p tBot σ H dBot := by
  unfold tBot dBot
  exact eds_cons ed_I (eds_cons ed_N (eds_cons ed_I (eds_cons (ed_ev (ev_add ev_10 ev_c) fun _ => .int _) (eds_cons ed_I (eds_cons ed_I (eds_cons ed_bool (eds_cons ed_none (eds_cons ed_I (eds_cons (ed_lst hh (eds_cons ed_I eds_nil) (by show 1 ≤ 1000; decide)) (eds_cons ed_bool (eds_cons (ed_P ed_I ed_I) eds_nil)))))))))))
/-- one of a written list -/
theorem s_draw {i : Nat} {tm : TA} {ds : List PyData} (hp : Pen H p a N) (h1 : σ[1]? = some (some (.ref p))) (hm : ∀ o, H p = some o → EvDs K p tm σ H ds) (l0 : 0 < ds.length) (l1 : ds.length ≤ 1000) (hN : N ≤ 990) (gd : ∀ d ∈ ds, Good d)
    (k : ∀ x d H', ExB p H H' → Pen H' p a (N + 1) → Dq K p H' x d → Good d → D.nx (σ.set i (some x)) H') : tAsg (tCall (spOne K) [] E (tCons (tVar 1) (tCons (tLstN tm) tNil))) (gName i) D σ H := by
  obtain ⟨xs, hx⟩ := hp.hasP
  refine ⟨.ref p, h1, ?_⟩
  refine (hm _ hx) H (Ex.refl H) _ fun vs H2 e2 qs => ?_
  have lv : vs.length = ds.length := qs.len
  refine ⟨Nat.le_of_lt (small1000 (by omega)), fun l fl _ => ?_⟩
  have hx2 := e2 _ _ hx
  have np : p ≠ l := ne_of_none hx2 fl
  have xn := Ex.new (o := .lst vs) fl
  refine ⟨p, a, l, vs, N, rfl, hp.ex (e2.trans xn), upd_same, np.symm, by omega, by omega, hN, fun x H' hxm eb hp' => ?_⟩
  obtain ⟨d, hd, q⟩ := qs.mem x hxm
  exact k x d H' ((Ex.b (e2.trans xn)).trans eb) hp' (Dq.exb (xn _ _ hx2) eb _ _ (Dq.ex xn _ _ q)) (gd d hd)
/-- any twice -/
theorem s_any2 (hp : Pen H p a N) (h1 : σ[1]? = some (some (.ref p))) (hN : N ≤ 890)
    (k : ∀ x y d e H', ExB p H H' → Pen H' p a (N + 10) → Dq K p H' x d → Good d → Dq K p H' y e → Good e → D.nx ((σ.set 3 (some x)).set 4 (some y)) H') :
    tPar 3 4 (tCons (tCall (spAny K) [] E (tCons (tCall spAnew [] E (tCons (tVar 1) tNil)) tNil)) (tCons (tCall (spAny K) [] E (tCons (tCall spAnew [] E (tCons (tVar 1) tNil)) tNil)) tNil)) D σ H := by
  refine ⟨.ref p, h1, p, a, N, rfl, hp, fun H1 eb1 hp1 => ?_⟩
  refine ⟨p, a, N, rfl, hp1, by omega, fun x d H2 eb2 hp2 dx gx => ?_⟩
  refine ⟨.ref p, h1, p, a, _, rfl, hp2, fun H3 eb3 hp3 => ?_⟩
  refine ⟨p, a, _, rfl, hp3, by omega, fun y e H4 eb4 hp4 dy gy => ?_⟩
  obtain ⟨xs, hx⟩ := hp2.hasP
  exact ⟨x, y, rfl, k x y d e H4 (((eb1.trans eb2).trans eb3).trans eb4) (hp4.mono (by omega)) (Dq.exb hx (eb3.trans eb4) _ _ dx) gx dy gy⟩
theorem ev_Txt {ok : Str → Prop} {tw : TE} {i j : Nat} {x : Str} {u v : V} {d e : PyData} (hw : Ev tw σ H (.str x)) (ho : ok x) (h1 : σ[i]? = some (some u)) (h2 : σ[j]? = some (some v)) (hd : Dq K p H u d) (he : Dq K p H v e) (gd : Good d) (ge : Good e) :
    Ev (tCall (spTxt K ok) [] E (tCons tw (tCons (tVar i) (tCons (tVar j) tNil)))) σ H (.str (txt x d e)) := fun H1 a Q k =>
  hw H1 a _ fun H2 a2 => ⟨u, h1, v, h2, p, x, u, v, d, e, rfl, ho, Dq.ex (a.trans a2) _ _ hd, Dq.ex (a.trans a2) _ _ he, gd, ge, fun H' e' => k H' (a2.trans e')⟩
theorem Dq.wh {v : V} {d : PyData} (h : Dq K p H v d) (hz : isWh d = true) : ∃ m, v = .int m ∧ d = .int m := by
  cases h with
  | int i => exact ⟨i, rfl, rfl⟩
  | _ => cases hz
theorem et_neS {ta tb : TE} {x y : Str} (ha : Ev ta σ H (.str x)) (hb : Ev tb σ H (.str y)) (h : x = y) : EvT (tTest (tOp rNe ta tb)) σ H false :=
  et_is (et_test (ev_op ha hb (rv_ne rfl))) (by subst h; simp)
end
section
variable {P : Program} {w : World} {K : PySem.W.Frag} {mg : Str → Option Value} {base : Heap}
def spLaw (K : PySem.W.Frag) : Sp := fun vs H Q _ => ∃ (a : Addr) (ns : List Int), vs = [.ref a] ∧ SqL K H a (ns.map V.int) ∧ ns.length ≤ 63 ∧ ∀ H', Q (.bl true) H'
theorem ok_law (T : Txt K mg) : FnG P w K mg base 8 T.d_law.a T.d_law.fd ["_law_script"] (spLaw K) := by
  refine okG T.d_law.F sc_law (fun vs H Q E h => ?_) (fun cdv A outer s H vs Q gd hr h => ?_)
  · obtain ⟨a, ns, rfl, _⟩ := h
    rfl
  · obtain ⟨a, ns, rfl, hS, hl, k⟩ := h
    have hu := hr.units
    refine ⟨_, (pss_cons (ps_set (i := 1) sc_law.nd rfl (Or.inl rfl) (pe_call (ok__law_open T) (hr.mono (by decide)) (by rfl) T.d__law_open.g T.d__law_open.F.kp T.d__law_open.b .nil pass0 (pa_cons (pv 0) pa_nil)))
      (pss_cons (ps_for PassesOwn.never rfl (pi_range1 (by rfl) T.n_range (pa_cons pe_int pa_nil)) (pg_name (i := 2) sc_law.nd rfl (Or.inl rfl)) (pss_cons (ps_par (i := 3) (j := 4) (by rfl) sc_law.nd rfl rfl (by decide) rfl rfl (pa_cons (pe_call (ok__law_any T) (hr.mono (by decide)) (by rfl) T.d__law_any.g T.d__law_any.F.kp T.d__law_any.b .nil pass0 (pa_cons (pe_call (ok__law_anew T) (hr.mono (by decide)) (by rfl) T.d__law_anew.g T.d__law_anew.F.kp T.d__law_anew.b .nil pass0 (pa_cons (pv 1) pa_nil)) pa_nil)) (pa_cons (pe_call (ok__law_any T) (hr.mono (by decide)) (by rfl) T.d__law_any.g T.d__law_any.F.kp T.d__law_any.b .nil pass0 (pa_cons (pe_call (ok__law_anew T) (hr.mono (by decide)) (by rfl) T.d__law_anew.g T.d__law_anew.F.kp T.d__law_anew.b .nil pass0 (pa_cons (pv 1) pa_nil)) pa_nil)) pa_nil)) (by rfl))
      (pss_cons (ps_if (pt_cmpR op_ne (pe_callB (call_repr gd hu) (by rfl) T.n_repr (by decide +kernel) (pa_cons (pe_call (ok_is_fraction T) (hr.mono (by decide)) (by rfl) T.d_is_fraction.g T.d_is_fraction.F.kp T.d_is_fraction.b .nil pass0 (pa_cons (pv 3) pa_nil)) pa_nil)) (pe_callB (call_repr gd hu) (by rfl) T.n_repr (by decide +kernel) (pa_cons (pe_call (ok__law_is T) (hr.mono (by decide)) (by rfl) T.d__law_is.g T.d__law_is.F.kp T.d__law_is.b .nil pass0 (pa_cons (pv 3) pa_nil)) pa_nil)) (nomark _)) (pss_one (ps_ret pe_bl)) pss_nil)
      (pss_cons (ps_for PassesOwn.never rfl (pi_tup (pe_tup (pa_cons pe_str (pa_cons pe_str (pa_cons pe_str (pa_cons pe_str (pa_cons pe_str pa_nil))))))) (pg_name (i := 5) sc_law.nd rfl (Or.inl rfl)) (pss_one (ps_if (pt_cmpR op_ne (pe_callG (ok__law_told T) gd (hr.mono (by decide)) (by rfl) T.d__law_told.g T.d__law_told.F.kp T.d__law_told.b (pa_cons (pv 5) (pa_cons (pv 3) (pa_cons (pv 4) pa_nil)))) (pe_callG (ok__law_due T) gd (hr.mono (by decide)) (by rfl) T.d__law_due.g T.d__law_due.F.kp T.d__law_due.b (pa_cons (pv 5) (pa_cons (pv 3) (pa_cons (pv 4) pa_nil)))) (nomark _)) (pss_one (ps_ret pe_bl)) pss_nil)))
      (pss_cons (ps_set (i := 6) sc_law.nd rfl (Or.inl rfl) (pe_call (ok__law_one T) (hr.mono (by decide)) (by rfl) T.d__law_one.g T.d__law_one.F.kp T.d__law_one.b .nil pass0 (pa_cons (pv 1) (pa_cons (pe_lstN (pa_cons pe_int (pa_cons pe_int (pa_cons (pe_un un_neg pe_int) (pa_cons (pe_op op_pow pe_int pe_int) (pa_cons (pe_un un_neg pe_int) (pa_cons pe_bl (pa_cons pe_non (pa_cons pe_str (pa_cons (pe_tup (pa_cons pe_int (pa_cons pe_int pa_nil))) pa_nil)))))))))) pa_nil))))
      (pss_cons (ps_set (i := 7) sc_law.nd rfl (Or.inl rfl) (pe_call (ok__law_one T) (hr.mono (by decide)) (by rfl) T.d__law_one.g T.d__law_one.F.kp T.d__law_one.b .nil pass0 (pa_cons (pv 1) (pa_cons (pe_lstN (pa_cons pe_int (pa_cons (pe_un un_neg pe_int) (pa_cons pe_int (pa_cons (pe_op op_add (pe_op op_pow pe_int pe_int) pe_int) (pa_cons pe_int (pa_cons pe_int (pa_cons pe_bl (pa_cons pe_non (pa_cons pe_int (pa_cons (pe_lstN (pa_cons pe_int pa_nil)) (pa_cons pe_bl (pa_cons (pe_tup (pa_cons pe_int (pa_cons pe_int pa_nil))) pa_nil))))))))))))) pa_nil))))
      (pss_cons (ps_set (i := 8) sc_law.nd rfl (Or.inl rfl) (pe_op op_add_str pe_str (pe_callB (call_repr gd hu) (by rfl) T.n_repr (by decide +kernel) (pa_cons (pv 6) pa_nil))))
      (pss_cons (ps_if (pt_val (pe_call (ok__law_is_whole T) (hr.mono (by decide)) (by rfl) T.d__law_is_whole.g T.d__law_is_whole.F.kp T.d__law_is_whole.b .nil pass0 (pa_cons (pv 6) pa_nil))) (pss_cons (ps_set (i := 8) sc_law.nd rfl (Or.inl rfl) (pe_op op_add_str pe_str (pe_callB (call_repr gd hu) (by rfl) T.n_repr (by decide +kernel) (pa_cons (pv 7) pa_nil))))
      (pss_one (ps_if (PW.pt (pw_and (pt_val (pe_call (ok__law_is_whole T) (hr.mono (by decide)) (by rfl) T.d__law_is_whole.g T.d__law_is_whole.F.kp T.d__law_is_whole.b .nil pass0 (pa_cons (pv 7) pa_nil))) (pw_and1 (pt_cmpR op_ne (pv 7) pe_int (nomark _))))) (pss_one (ps_set (i := 8) sc_law.nd rfl (Or.inl rfl) (pe_callB (call_repr gd hu) (by rfl) T.n_repr (by decide +kernel) (pa_cons (pe_call (ok__law_low T) (hr.mono (by decide)) (by rfl) T.d__law_low.g T.d__law_low.F.kp T.d__law_low.b .nil pass0 (pa_cons (pv 6) (pa_cons (pv 7) pa_nil))) pa_nil)))) pss_nil))) pss_nil)
      (pss_one (ps_if (pt_cmpR op_ne (pe_callG (ok__law_told T) gd (hr.mono (by decide)) (by rfl) T.d__law_told.g T.d__law_told.F.kp T.d__law_told.b (pa_cons pe_str (pa_cons (pv 6) (pa_cons (pv 7) pa_nil)))) (pv 8) (nomark _)) (pss_one (ps_ret pe_bl)) pss_nil))))))))))
      (pss_one (ps_ret pe_bl)))), ?_⟩
    refine ⟨.ref a, rfl, a, ns, rfl, hS, hl, fun p c H1 ex1 hp nf => ?_⟩
    refine ⟨5, rfl, by decide, by decide, ?_⟩
    refine for_range (lo := 0) (n := 5) (fun i σ H' => (∃ y2 y3 y4 y5 y6 y7 y8, σ = [some (.ref a), some (.ref p), y2, y3, y4, y5, y6, y7, y8]) ∧ Pen H' p c (12 * i)) ⟨⟨none, none, none, none, none, none, none, rfl⟩, hp⟩ ?_ ?_
    · rintro i σ H' hi ⟨⟨y2, y3, y4, y5, y6, y7, y8, rfl⟩, hp'⟩
      refine n_name ?_
      refine n_seq ?_
      refine s_any2 (K := K) hp' rfl (by omega) fun x y d e H2 eb2 hp2 hd gd' he ge => ?_
      dsimp only
      refine n_seq ?_
      refine s_skip (et_neS (ev_repr (p := p) (d := .bool (frB d)) (ed_ev (ev_isD (ev_var rfl) hd trivial) fun _ => .bl _) (nc_bool _) (by decide) (by decide)) (ev_repr (p := p) (d := .bool (frB d)) (ed_ev (ev_isD (ev_var rfl) hd gd'.sm) fun _ => .bl _) (nc_bool _) (by decide) (by decide)) rfl) fun H3 e3 => ?_
      dsimp only
      refine n_seq ?_
      refine ⟨by show 5 ≤ sizeLine; decide, fun tp ft => ?_⟩
      have xt := Ex.new (o := .tup [.str "plus", .str "minus", .str "times", .str "over", .str "compare"]) ft
      refine ⟨tp, rfl, ⟨_, SqT.of upd_same⟩, ?_⟩
      refine for_tup (K := K) (a := tp) (xs := [.str "plus", .str "minus", .str "times", .str "over", .str "compare"]) (fun j σ H' => (∃ s2 s5, σ = [some (.ref a), some (.ref p), s2, some x, some y, s5, y6, y7, y8]) ∧ H' tp = some (.tup [.str "plus", .str "minus", .str "times", .str "over", .str "compare"]) ∧ Ex H2 H') ⟨⟨_, _, rfl⟩, upd_same, e3.trans xt⟩ (fun i σ H' _ ⟨_, hp, _⟩ => SqT.of hp) ?_ ?_
      · rintro j z σ H4 hj ⟨⟨s2, s5, rfl⟩, htp, e4⟩
        obtain ⟨x5, rfl, hw⟩ : ∃ x5 : Str, z = .str x5 ∧ W5 x5 := by
          have hz := List.mem_of_getElem? hj
          simp only [List.mem_cons, List.not_mem_nil, or_false] at hz
          rcases hz with rfl | rfl | rfl | rfl | rfl
          · exact ⟨_, rfl, .inl rfl⟩
          · exact ⟨_, rfl, .inr (.inl rfl)⟩
          · exact ⟨_, rfl, .inr (.inr (.inl rfl))⟩
          · exact ⟨_, rfl, .inr (.inr (.inr (.inl rfl)))⟩
          · exact ⟨_, rfl, .inr (.inr (.inr (.inr rfl)))⟩
        refine n_name ?_
        refine s_skip (et_neS (ev_Txt (K := K) (p := p) (ev_var rfl) (.inl hw) rfl rfl (Dq.ex e4 _ _ hd) (Dq.ex e4 _ _ he) gd' ge) (ev_Txt (K := K) (p := p) (ev_var rfl) hw rfl rfl (Dq.ex e4 _ _ hd) (Dq.ex e4 _ _ he) gd' ge) rfl) fun H5 e5 => ?_
        exact ⟨⟨_, _, rfl⟩, e5 _ _ htp, e4.trans e5⟩
      · rintro σ H4 ⟨⟨s2, s5, rfl⟩, _, e4⟩
        have hp4 := hp2.ex e4
        refine n_seq ?_
        refine s_draw (K := K) (tm := tTop) hp4 rfl (fun _ _ => mTop) (by decide) (by decide) (by omega) goodTop fun u du H5 eb5 hp5 qu gu => ?_
        dsimp only
        refine n_seq ?_
        refine s_draw (K := K) (tm := tBot) hp5 rfl (fun _ hh => mBot hh) (by decide) (by decide) (by omega) goodBot fun v dv H6 eb6 hp6 qv gv => ?_
        obtain ⟨px, hx⟩ := hp5.hasP
        replace qu := Dq.exb hx eb6 _ _ qu
        dsimp only
        refine n_seq ?_
        refine s_asg (ev_bad (p := p) (ed_var rfl qu) gu.nc (by decide) (by decide)) fun H7 e7 => ?_
        dsimp only
        refine s_join (fun σ H' => σ = [some (.ref a), some (.ref p), s2, some x, some y, s5, some u, some v, some (.str (txt "fraction" du dv))] ∧ Ex H6 H') (fun NX hNX => ?_) ?_
        · refine s_if (et_B (ev_isD (ev_var rfl) (Dq.ex e7 _ _ qu) trivial)) (fun z H8 e8 => ?_) (fun z H8 e8 => ?_)
          · have e8' := e7.trans e8
            refine n_seq ?_
            refine s_asg (ev_bad (p := p) (ed_var rfl (Dq.ex e8' _ _ qv)) gv.nc (by decide) (by decide)) fun H9 e9 => ?_
            have e9' := e8'.trans e9
            dsimp only
            refine s_if (b := isWh dv && !decide (v = .int 0)) (et_and (et_B (ev_isD (ev_var rfl) (Dq.ex e9' _ _ qv) trivial)) fun z2 => ?_) (fun z2 H10 e10 => ?_) (fun z2 H10 e10 => ?_)
            · obtain ⟨m, rfl, rfl⟩ := qv.wh z2
              exact et_test (ev_op (ev_var rfl) ev_c (rv_ne rfl))
            · obtain ⟨z3, z4⟩ := Bool.and_eq_true_iff.mp z2
              obtain ⟨m, rfl, rfl⟩ := qv.wh z3
              obtain ⟨n, rfl, rfl⟩ := qu.wh z
              have m0 : m ≠ 0 := fun h => by
                subst h
                simp at z4
              have hn : n.natAbs < 2 ^ 100 := gu.iv
              have hm : m.natAbs < 2 ^ 100 := gv.iv
              refine s_asg (ev_repr (p := p) (d := frd (Rat.divInt n m)) (ed_fr (ep_LowL (b := 100) (ev_var rfl) (ev_var rfl) m0 hn hm (by decide) rfl)) (nc_frd (b := 100) (bd_divInt m0 hn hm) (by decide) (by decide)) (by decide) (by decide)) fun H11 e11 => ?_
              exact hNX _ _ ⟨by rw [txt_fn z z3 m0]; rfl, e9'.trans (e10.trans e11)⟩
            · refine n_next ?_
              refine hNX _ _ ⟨?_, e9'.trans e10⟩
              cases hw : isWh dv with
              | false => rw [txt_fs z hw]; rfl
              | true =>
                obtain ⟨m, rfl, rfl⟩ := qv.wh hw
                have m0 : m = 0 := by
                  rw [hw] at z2
                  simpa using z2
                rw [txt_fo z hw m0]; rfl
          · exact hNX _ _ ⟨by rw [txt_ff z]; rfl, e7.trans e8⟩
        · rintro σ H8 ⟨rfl, e8⟩
          refine s_skip (et_neS (ev_Txt (K := K) (p := p) ev_c (.inr rfl) rfl rfl (Dq.ex e8 _ _ qu) (Dq.ex e8 _ _ qv) gu gv) (ev_var rfl) rfl) fun H9 e9 => ?_
          exact ⟨⟨_, _, _, _, _, _, _, rfl⟩, (hp6.ex (e8.trans e9)).mono (by omega)⟩
    · rintro σ H' ⟨⟨y2, y3, y4, y5, y6, y7, y8, rfl⟩, hp'⟩
      exact k H'
end
theorem all_mk {l : PySem.W.OpenLaw} {w : World} {K : PySem.W.Frag} {h : Heap} {mg : Str → Option Value} {fa : Addr} (X : K.In h) (G : h.Ns mainGlobals mg) (hfa : mg "law" = some (.ref fa))
    {od1 an1 : Option Addr} {sl1 : Array (Option Value)} {oc1 kV1 dc1 pm1 cd1 ct1 : Value} {f1 : Addr}
    {od2 an2 : Option Addr} {sl2 : Array (Option Value)} {oc2 kV2 dc2 pm2 cd2 ct2 : Value} {f2 : Addr}
    {od3 an3 : Option Addr} {sl3 : Array (Option Value)} {oc3 kV3 dc3 pm3 cd3 ct3 : Value} {f3 : Addr}
    {od4 an4 : Option Addr} {sl4 : Array (Option Value)} {oc4 kV4 dc4 pm4 cd4 ct4 : Value} {f4 : Addr}
    {od5 an5 : Option Addr} {sl5 : Array (Option Value)} {oc5 kV5 dc5 pm5 cd5 ct5 : Value} {f5 : Addr}
    {od6 an6 : Option Addr} {sl6 : Array (Option Value)} {oc6 kV6 dc6 pm6 cd6 ct6 : Value} {f6 : Addr}
    {od7 an7 : Option Addr} {sl7 : Array (Option Value)} {oc7 kV7 dc7 pm7 cd7 ct7 : Value} {f7 : Addr}
    {od8 an8 : Option Addr} {sl8 : Array (Option Value)} {oc8 kV8 dc8 pm8 cd8 ct8 : Value} {f8 : Addr}
    {od9 an9 : Option Addr} {sl9 : Array (Option Value)} {oc9 kV9 dc9 pm9 cd9 ct9 : Value} {f9 : Addr}
    {od10 an10 : Option Addr} {sl10 : Array (Option Value)} {oc10 kV10 dc10 pm10 cd10 ct10 : Value} {f10 : Addr}
    {od11 an11 : Option Addr} {sl11 : Array (Option Value)} {oc11 kV11 dc11 pm11 cd11 ct11 : Value} {f11 : Addr}
    {od12 an12 : Option Addr} {sl12 : Array (Option Value)} {oc12 kV12 dc12 pm12 cd12 ct12 : Value} {f12 : Addr}
    {od13 an13 : Option Addr} {sl13 : Array (Option Value)} {oc13 kV13 dc13 pm13 cd13 ct13 : Value} {f13 : Addr}
    {od14 an14 : Option Addr} {sl14 : Array (Option Value)} {oc14 kV14 dc14 pm14 cd14 ct14 : Value} {f14 : Addr}
    {od15 an15 : Option Addr} {sl15 : Array (Option Value)} {oc15 kV15 dc15 pm15 cd15 ct15 : Value} {f15 : Addr}
    {od16 an16 : Option Addr} {sl16 : Array (Option Value)} {oc16 kV16 dc16 pm16 cd16 ct16 : Value} {f16 : Addr}
    {od17 an17 : Option Addr} {sl17 : Array (Option Value)} {oc17 kV17 dc17 pm17 cd17 ct17 : Value} {f17 : Addr}
    {od18 an18 : Option Addr} {sl18 : Array (Option Value)} {oc18 kV18 dc18 pm18 cd18 ct18 : Value} {f18 : Addr}
    {od19 an19 : Option Addr} {sl19 : Array (Option Value)} {oc19 kV19 dc19 pm19 cd19 ct19 : Value} {f19 : Addr}
    {od20 an20 : Option Addr} {sl20 : Array (Option Value)} {oc20 kV20 dc20 pm20 cd20 ct20 : Value} {f20 : Addr}
    {od21 an21 : Option Addr} {sl21 : Array (Option Value)} {oc21 kV21 dc21 pm21 cd21 ct21 : Value} {f21 : Addr}
    {od22 an22 : Option Addr} {sl22 : Array (Option Value)} {oc22 kV22 dc22 pm22 cd22 ct22 : Value} {f22 : Addr}
    {od23 an23 : Option Addr} {sl23 : Array (Option Value)} {oc23 kV23 dc23 pm23 cd23 ct23 : Value} {f23 : Addr}
    {od24 an24 : Option Addr} {sl24 : Array (Option Value)} {oc24 kV24 dc24 pm24 cd24 ct24 : Value} {f24 : Addr}
    {od25 an25 : Option Addr} {sl25 : Array (Option Value)} {oc25 kV25 dc25 pm25 cd25 ct25 : Value} {f25 : Addr}
    {od26 an26 : Option Addr} {sl26 : Array (Option Value)} {oc26 kV26 dc26 pm26 cd26 ct26 : Value} {f26 : Addr}
    {od27 an27 : Option Addr} {sl27 : Array (Option Value)} {oc27 kV27 dc27 pm27 cd27 ct27 : Value} {f27 : Addr}
    {od28 an28 : Option Addr} {sl28 : Array (Option Value)} {oc28 kV28 dc28 pm28 cd28 ct28 : Value} {f28 : Addr}
    {od29 an29 : Option Addr} {sl29 : Array (Option Value)} {oc29 kV29 dc29 pm29 cd29 ct29 : Value} {f29 : Addr}
    {od30 an30 : Option Addr} {sl30 : Array (Option Value)} {oc30 kV30 dc30 pm30 cd30 ct30 : Value} {f30 : Addr}
    {od31 an31 : Option Addr} {sl31 : Array (Option Value)} {oc31 kV31 dc31 pm31 cd31 ct31 : Value} {f31 : Addr}
    {od32 an32 : Option Addr} {sl32 : Array (Option Value)} {oc32 kV32 dc32 pm32 cd32 ct32 : Value} {f32 : Addr}
    {od33 an33 : Option Addr} {sl33 : Array (Option Value)} {oc33 kV33 dc33 pm33 cd33 ct33 : Value} {f33 : Addr}
    {od34 an34 : Option Addr} {sl34 : Array (Option Value)} {oc34 kV34 dc34 pm34 cd34 ct34 : Value} {f34 : Addr}
    {aZ : Addr} {ddZ : Option Addr} {t0 t1 : Tok} {nZ : Nat} {slZ : Array (Option Value)}
    {CM_ fM_ : Addr} {odM_ anM_ : Option Addr} {slM_ : Array (Option Value)} {ocM_ kVM_ dcM_ pmM_ cdM_ ctM_ : Value}
    {C_BadFraction f_BadFraction : Addr} {od_BadFraction an_BadFraction : Option Addr} {sl_BadFraction : Array (Option Value)} {oc_BadFraction kV_BadFraction dc_BadFraction pm_BadFraction cd_BadFraction ct_BadFraction : Value}
    (a1 : PySem.W.nsIn K mainGlobals "is_whole" = some (some (.ref f1))) (l1 : K.lookup f1 = some ⟨oc1, od1, .func (PySem.W.fnOf "is_whole" "is_whole" (defArgs s_is_whole) (defBody s_is_whole) (defScope s_is_whole) .none kV1 dc1 pm1 an1 cd1 ct1), sl1⟩) (c1 : PySem.W.codeIn K cd1 "is_whole" = true) (k1 : PySem.W.keepIn K (.ref f1) = true)
    (a2 : PySem.W.nsIn K mainGlobals "is_fraction" = some (some (.ref f2))) (l2 : K.lookup f2 = some ⟨oc2, od2, .func (PySem.W.fnOf "is_fraction" "is_fraction" (defArgs s_is_fraction) (defBody s_is_fraction) (defScope s_is_fraction) .none kV2 dc2 pm2 an2 cd2 ct2), sl2⟩) (c2 : PySem.W.codeIn K cd2 "is_fraction" = true) (k2 : PySem.W.keepIn K (.ref f2) = true)
    (a3 : PySem.W.nsIn K mainGlobals "require_fraction" = some (some (.ref f3))) (l3 : K.lookup f3 = some ⟨oc3, od3, .func (PySem.W.fnOf "require_fraction" "require_fraction" (defArgs s_require_fraction) (defBody s_require_fraction) (defScope s_require_fraction) .none kV3 dc3 pm3 an3 cd3 ct3), sl3⟩) (c3 : PySem.W.codeIn K cd3 "require_fraction" = true) (k3 : PySem.W.keepIn K (.ref f3) = true)
    (a4 : PySem.W.nsIn K mainGlobals "require_whole" = some (some (.ref f4))) (l4 : K.lookup f4 = some ⟨oc4, od4, .func (PySem.W.fnOf "require_whole" "require_whole" (defArgs s_require_whole) (defBody s_require_whole) (defScope s_require_whole) .none kV4 dc4 pm4 an4 cd4 ct4), sl4⟩) (c4 : PySem.W.codeIn K cd4 "require_whole" = true) (k4 : PySem.W.keepIn K (.ref f4) = true)
    (a5 : PySem.W.nsIn K mainGlobals "lowest" = some (some (.ref f5))) (l5 : K.lookup f5 = some ⟨oc5, od5, .func (PySem.W.fnOf "lowest" "lowest" (defArgs s_lowest) (defBody s_lowest) (defScope s_lowest) .none kV5 dc5 pm5 an5 cd5 ct5), sl5⟩) (c5 : PySem.W.codeIn K cd5 "lowest" = true) (k5 : PySem.W.keepIn K (.ref f5) = true)
    (a6 : PySem.W.nsIn K mainGlobals "add" = some (some (.ref f6))) (l6 : K.lookup f6 = some ⟨oc6, od6, .func (PySem.W.fnOf "add" "add" (defArgs s_add) (defBody s_add) (defScope s_add) .none kV6 dc6 pm6 an6 cd6 ct6), sl6⟩) (c6 : PySem.W.codeIn K cd6 "add" = true) (k6 : PySem.W.keepIn K (.ref f6) = true)
    (a7 : PySem.W.nsIn K mainGlobals "subtract" = some (some (.ref f7))) (l7 : K.lookup f7 = some ⟨oc7, od7, .func (PySem.W.fnOf "subtract" "subtract" (defArgs s_subtract) (defBody s_subtract) (defScope s_subtract) .none kV7 dc7 pm7 an7 cd7 ct7), sl7⟩) (c7 : PySem.W.codeIn K cd7 "subtract" = true) (k7 : PySem.W.keepIn K (.ref f7) = true)
    (a8 : PySem.W.nsIn K mainGlobals "multiply" = some (some (.ref f8))) (l8 : K.lookup f8 = some ⟨oc8, od8, .func (PySem.W.fnOf "multiply" "multiply" (defArgs s_multiply) (defBody s_multiply) (defScope s_multiply) .none kV8 dc8 pm8 an8 cd8 ct8), sl8⟩) (c8 : PySem.W.codeIn K cd8 "multiply" = true) (k8 : PySem.W.keepIn K (.ref f8) = true)
    (a9 : PySem.W.nsIn K mainGlobals "divide" = some (some (.ref f9))) (l9 : K.lookup f9 = some ⟨oc9, od9, .func (PySem.W.fnOf "divide" "divide" (defArgs s_divide) (defBody s_divide) (defScope s_divide) .none kV9 dc9 pm9 an9 cd9 ct9), sl9⟩) (c9 : PySem.W.codeIn K cd9 "divide" = true) (k9 : PySem.W.keepIn K (.ref f9) = true)
    (a10 : PySem.W.nsIn K mainGlobals "fraction" = some (some (.ref f10))) (l10 : K.lookup f10 = some ⟨oc10, od10, .func (PySem.W.fnOf "fraction" "fraction" (defArgs s_fraction) (defBody s_fraction) (defScope s_fraction) .none kV10 dc10 pm10 an10 cd10 ct10), sl10⟩) (c10 : PySem.W.codeIn K cd10 "fraction" = true) (k10 : PySem.W.keepIn K (.ref f10) = true)
    (a11 : PySem.W.nsIn K mainGlobals "plus" = some (some (.ref f11))) (l11 : K.lookup f11 = some ⟨oc11, od11, .func (PySem.W.fnOf "plus" "plus" (defArgs s_plus) (defBody s_plus) (defScope s_plus) .none kV11 dc11 pm11 an11 cd11 ct11), sl11⟩) (c11 : PySem.W.codeIn K cd11 "plus" = true) (k11 : PySem.W.keepIn K (.ref f11) = true)
    (a12 : PySem.W.nsIn K mainGlobals "minus" = some (some (.ref f12))) (l12 : K.lookup f12 = some ⟨oc12, od12, .func (PySem.W.fnOf "minus" "minus" (defArgs s_minus) (defBody s_minus) (defScope s_minus) .none kV12 dc12 pm12 an12 cd12 ct12), sl12⟩) (c12 : PySem.W.codeIn K cd12 "minus" = true) (k12 : PySem.W.keepIn K (.ref f12) = true)
    (a13 : PySem.W.nsIn K mainGlobals "times" = some (some (.ref f13))) (l13 : K.lookup f13 = some ⟨oc13, od13, .func (PySem.W.fnOf "times" "times" (defArgs s_times) (defBody s_times) (defScope s_times) .none kV13 dc13 pm13 an13 cd13 ct13), sl13⟩) (c13 : PySem.W.codeIn K cd13 "times" = true) (k13 : PySem.W.keepIn K (.ref f13) = true)
    (a14 : PySem.W.nsIn K mainGlobals "over" = some (some (.ref f14))) (l14 : K.lookup f14 = some ⟨oc14, od14, .func (PySem.W.fnOf "over" "over" (defArgs s_over) (defBody s_over) (defScope s_over) .none kV14 dc14 pm14 an14 cd14 ct14), sl14⟩) (c14 : PySem.W.codeIn K cd14 "over" = true) (k14 : PySem.W.keepIn K (.ref f14) = true)
    (a15 : PySem.W.nsIn K mainGlobals "compare" = some (some (.ref f15))) (l15 : K.lookup f15 = some ⟨oc15, od15, .func (PySem.W.fnOf "compare" "compare" (defArgs s_compare) (defBody s_compare) (defScope s_compare) .none kV15 dc15 pm15 an15 cd15 ct15), sl15⟩) (c15 : PySem.W.codeIn K cd15 "compare" = true) (k15 : PySem.W.keepIn K (.ref f15) = true)
    (a16 : PySem.W.nsIn K mainGlobals "_law_spread" = some (some (.ref f16))) (l16 : K.lookup f16 = some ⟨oc16, od16, .func (PySem.W.fnOf "_law_spread" "_law_spread" (defArgs s__law_spread) (defBody s__law_spread) (defScope s__law_spread) .none kV16 dc16 pm16 an16 cd16 ct16), sl16⟩) (c16 : PySem.W.codeIn K cd16 "_law_spread" = true) (k16 : PySem.W.keepIn K (.ref f16) = true)
    (a17 : PySem.W.nsIn K mainGlobals "_law_open" = some (some (.ref f17))) (l17 : K.lookup f17 = some ⟨oc17, od17, .func (PySem.W.fnOf "_law_open" "_law_open" (defArgs s__law_open) (defBody s__law_open) (defScope s__law_open) .none kV17 dc17 pm17 an17 cd17 ct17), sl17⟩) (c17 : PySem.W.codeIn K cd17 "_law_open" = true) (k17 : PySem.W.keepIn K (.ref f17) = true)
    (a18 : PySem.W.nsIn K mainGlobals "_law_take" = some (some (.ref f18))) (l18 : K.lookup f18 = some ⟨oc18, od18, .func (PySem.W.fnOf "_law_take" "_law_take" (defArgs s__law_take) (defBody s__law_take) (defScope s__law_take) .none kV18 dc18 pm18 an18 cd18 ct18), sl18⟩) (c18 : PySem.W.codeIn K cd18 "_law_take" = true) (k18 : PySem.W.keepIn K (.ref f18) = true)
    (a19 : PySem.W.nsIn K mainGlobals "_law_anew" = some (some (.ref f19))) (l19 : K.lookup f19 = some ⟨oc19, od19, .func (PySem.W.fnOf "_law_anew" "_law_anew" (defArgs s__law_anew) (defBody s__law_anew) (defScope s__law_anew) .none kV19 dc19 pm19 an19 cd19 ct19), sl19⟩) (c19 : PySem.W.codeIn K cd19 "_law_anew" = true) (k19 : PySem.W.keepIn K (.ref f19) = true)
    (a20 : PySem.W.nsIn K mainGlobals "_law_one" = some (some (.ref f20))) (l20 : K.lookup f20 = some ⟨oc20, od20, .func (PySem.W.fnOf "_law_one" "_law_one" (defArgs s__law_one) (defBody s__law_one) (defScope s__law_one) .none kV20 dc20 pm20 an20 cd20 ct20), sl20⟩) (c20 : PySem.W.codeIn K cd20 "_law_one" = true) (k20 : PySem.W.keepIn K (.ref f20) = true)
    (a21 : PySem.W.nsIn K mainGlobals "_law_is_whole" = some (some (.ref f21))) (l21 : K.lookup f21 = some ⟨oc21, od21, .func (PySem.W.fnOf "_law_is_whole" "_law_is_whole" (defArgs s__law_is_whole) (defBody s__law_is_whole) (defScope s__law_is_whole) .none kV21 dc21 pm21 an21 cd21 ct21), sl21⟩) (c21 : PySem.W.codeIn K cd21 "_law_is_whole" = true) (k21 : PySem.W.keepIn K (.ref f21) = true)
    (a22 : PySem.W.nsIn K mainGlobals "_law_common" = some (some (.ref f22))) (l22 : K.lookup f22 = some ⟨oc22, od22, .func (PySem.W.fnOf "_law_common" "_law_common" (defArgs s__law_common) (defBody s__law_common) (defScope s__law_common) .none kV22 dc22 pm22 an22 cd22 ct22), sl22⟩) (c22 : PySem.W.codeIn K cd22 "_law_common" = true) (k22 : PySem.W.keepIn K (.ref f22) = true)
    (a23 : PySem.W.nsIn K mainGlobals "_law_low" = some (some (.ref f23))) (l23 : K.lookup f23 = some ⟨oc23, od23, .func (PySem.W.fnOf "_law_low" "_law_low" (defArgs s__law_low) (defBody s__law_low) (defScope s__law_low) .none kV23 dc23 pm23 an23 cd23 ct23), sl23⟩) (c23 : PySem.W.codeIn K cd23 "_law_low" = true) (k23 : PySem.W.keepIn K (.ref f23) = true)
    (a24 : PySem.W.nsIn K mainGlobals "_law_add" = some (some (.ref f24))) (l24 : K.lookup f24 = some ⟨oc24, od24, .func (PySem.W.fnOf "_law_add" "_law_add" (defArgs s__law_add) (defBody s__law_add) (defScope s__law_add) .none kV24 dc24 pm24 an24 cd24 ct24), sl24⟩) (c24 : PySem.W.codeIn K cd24 "_law_add" = true) (k24 : PySem.W.keepIn K (.ref f24) = true)
    (a25 : PySem.W.nsIn K mainGlobals "_law_sub" = some (some (.ref f25))) (l25 : K.lookup f25 = some ⟨oc25, od25, .func (PySem.W.fnOf "_law_sub" "_law_sub" (defArgs s__law_sub) (defBody s__law_sub) (defScope s__law_sub) .none kV25 dc25 pm25 an25 cd25 ct25), sl25⟩) (c25 : PySem.W.codeIn K cd25 "_law_sub" = true) (k25 : PySem.W.keepIn K (.ref f25) = true)
    (a26 : PySem.W.nsIn K mainGlobals "_law_mul" = some (some (.ref f26))) (l26 : K.lookup f26 = some ⟨oc26, od26, .func (PySem.W.fnOf "_law_mul" "_law_mul" (defArgs s__law_mul) (defBody s__law_mul) (defScope s__law_mul) .none kV26 dc26 pm26 an26 cd26 ct26), sl26⟩) (c26 : PySem.W.codeIn K cd26 "_law_mul" = true) (k26 : PySem.W.keepIn K (.ref f26) = true)
    (a27 : PySem.W.nsIn K mainGlobals "_law_div" = some (some (.ref f27))) (l27 : K.lookup f27 = some ⟨oc27, od27, .func (PySem.W.fnOf "_law_div" "_law_div" (defArgs s__law_div) (defBody s__law_div) (defScope s__law_div) .none kV27 dc27 pm27 an27 cd27 ct27), sl27⟩) (c27 : PySem.W.codeIn K cd27 "_law_div" = true) (k27 : PySem.W.keepIn K (.ref f27) = true)
    (a28 : PySem.W.nsIn K mainGlobals "_law_sign" = some (some (.ref f28))) (l28 : K.lookup f28 = some ⟨oc28, od28, .func (PySem.W.fnOf "_law_sign" "_law_sign" (defArgs s__law_sign) (defBody s__law_sign) (defScope s__law_sign) .none kV28 dc28 pm28 an28 cd28 ct28), sl28⟩) (c28 : PySem.W.codeIn K cd28 "_law_sign" = true) (k28 : PySem.W.keepIn K (.ref f28) = true)
    (a29 : PySem.W.nsIn K mainGlobals "_law_any" = some (some (.ref f29))) (l29 : K.lookup f29 = some ⟨oc29, od29, .func (PySem.W.fnOf "_law_any" "_law_any" (defArgs s__law_any) (defBody s__law_any) (defScope s__law_any) .none kV29 dc29 pm29 an29 cd29 ct29), sl29⟩) (c29 : PySem.W.codeIn K cd29 "_law_any" = true) (k29 : PySem.W.keepIn K (.ref f29) = true)
    (a30 : PySem.W.nsIn K mainGlobals "_law_is" = some (some (.ref f30))) (l30 : K.lookup f30 = some ⟨oc30, od30, .func (PySem.W.fnOf "_law_is" "_law_is" (defArgs s__law_is) (defBody s__law_is) (defScope s__law_is) .none kV30 dc30 pm30 an30 cd30 ct30), sl30⟩) (c30 : PySem.W.codeIn K cd30 "_law_is" = true) (k30 : PySem.W.keepIn K (.ref f30) = true)
    (a31 : PySem.W.nsIn K mainGlobals "_law_due" = some (some (.ref f31))) (l31 : K.lookup f31 = some ⟨oc31, od31, .func (PySem.W.fnOf "_law_due" "_law_due" (defArgs s__law_due) (defBody s__law_due) (defScope s__law_due) .none kV31 dc31 pm31 an31 cd31 ct31), sl31⟩) (c31 : PySem.W.codeIn K cd31 "_law_due" = true) (k31 : PySem.W.keepIn K (.ref f31) = true)
    (a32 : PySem.W.nsIn K mainGlobals "_law_call" = some (some (.ref f32))) (l32 : K.lookup f32 = some ⟨oc32, od32, .func (PySem.W.fnOf "_law_call" "_law_call" (defArgs s__law_call) (defBody s__law_call) (defScope s__law_call) .none kV32 dc32 pm32 an32 cd32 ct32), sl32⟩) (c32 : PySem.W.codeIn K cd32 "_law_call" = true) (k32 : PySem.W.keepIn K (.ref f32) = true)
    (a33 : PySem.W.nsIn K mainGlobals "_law_told" = some (some (.ref f33))) (l33 : K.lookup f33 = some ⟨oc33, od33, .func (PySem.W.fnOf "_law_told" "_law_told" (defArgs s__law_told) (defBody s__law_told) (defScope s__law_told) .none kV33 dc33 pm33 an33 cd33 ct33), sl33⟩) (c33 : PySem.W.codeIn K cd33 "_law_told" = true) (k33 : PySem.W.keepIn K (.ref f33) = true)
    (a34 : PySem.W.nsIn K mainGlobals "law" = some (some (.ref f34))) (l34 : K.lookup f34 = some ⟨oc34, od34, .func (PySem.W.fnOf "law" "law" (defArgs s_law) (defBody s_law) (defScope s_law) .none kV34 dc34 pm34 an34 cd34 ct34), sl34⟩) (c34 : PySem.W.codeIn K cd34 "law" = true) (k34 : PySem.W.keepIn K (.ref f34) = true)
    (z_abs : PySem.W.nsIn K mainGlobals "abs" = some none)
    (z_bool : PySem.W.nsIn K mainGlobals "bool" = some none)
    (z_enumerate : PySem.W.nsIn K mainGlobals "enumerate" = some none)
    (z_int : PySem.W.nsIn K mainGlobals "int" = some none)
    (z_isinstance : PySem.W.nsIn K mainGlobals "isinstance" = some none)
    (z_len : PySem.W.nsIn K mainGlobals "len" = some none)
    (z_list : PySem.W.nsIn K mainGlobals "list" = some none)
    (z_range : PySem.W.nsIn K mainGlobals "range" = some none)
    (z_repr : PySem.W.nsIn K mainGlobals "repr" = some none)
    (z_tuple : PySem.W.nsIn K mainGlobals "tuple" = some none)
    (z_gcd : PySem.W.nsIn K mainGlobals "gcd" = some (some (.builtin "math.gcd")))
    (zZ : PySem.W.nsIn K mainGlobals "ZERO" = some (some (.ref aZ))) (lZ : K.lookup aZ = some ⟨.type "tuple", ddZ, .seq #[.int 0 t0, .int 1 t1] nZ, slZ⟩)
    (zVE : PySem.W.nsIn K mainGlobals "ValueError" = some none) (zv : PySem.W.findCls K (.type "ValueError") (.type "type") "__init__" = some (.val (.builtin "ValueError.__init__"))) (zM_ : PySem.W.nsIn K mainGlobals "MixError" = some (some (.ref CM_))) (iM_ : PySem.W.findCls K (.ref CM_) (.type "type") "__init__" = some (.val (.ref fM_))) (lM_ : K.lookup fM_ = some ⟨ocM_, odM_, .func (PySem.W.fnOf "__init__" "MixError.__init__" (defArgs s_i_MixError) (defBody s_i_MixError) (defScope s_i_MixError) .none kVM_ dcM_ pmM_ anM_ cdM_ ctM_), slM_⟩) (cM_ : PySem.W.codeIn K cdM_ "MixError.__init__" = true) (xM_ : baseB K CM_ fM_ = true)
    (z_BadFraction : PySem.W.nsIn K mainGlobals "BadFraction" = some (some (.ref C_BadFraction))) (i_BadFraction : PySem.W.findIn K (.ref C_BadFraction) "__init__" = some (some (.ref f_BadFraction))) (l_BadFraction : K.lookup f_BadFraction = some ⟨oc_BadFraction, od_BadFraction, .func (PySem.W.fnOf "__init__" "BadFraction.__init__" (defArgs s_i_BadFraction) (defBody s_i_BadFraction) (defScope s_i_BadFraction) .none kV_BadFraction dc_BadFraction pm_BadFraction an_BadFraction cd_BadFraction ct_BadFraction), sl_BadFraction⟩) (c_BadFraction : PySem.W.codeIn K cd_BadFraction "BadFraction.__init__" = true) (k_BadFraction : PySem.W.keepIn K (.ref f_BadFraction) = true) (x_BadFraction : errB K C_BadFraction CM_ f_BadFraction "BadFraction" = true) :
    ∃ fd : FuncData, (∀ (s : Shared) (v : Value), BindsTo s fd ⟨[v], []⟩ [("_law_script", v)]) ∧ ∀ base : Heap, K.In base → base.Ns mainGlobals mg → FnG l.prog w K mg base 8 fa fd ["_law_script"] (spLaw K) := by
  have e := hfa.symm.trans (PySem.W.mg_of X G a34)
  cases e
  let T : Txt K mg := {
    d_is_whole := ⟨f1, _, fun_mk (st := s_is_whole) l1 c1 k1, (fun_mk (st := s_is_whole) l1 c1 k1).binds (ps := ["value"]) (fun _ _ _ _ _ _ us hl => match us, hl with | [_], _ => rfl), PySem.W.mg_of X G a1⟩,
    d_is_fraction := ⟨f2, _, fun_mk (st := s_is_fraction) l2 c2 k2, (fun_mk (st := s_is_fraction) l2 c2 k2).binds (ps := ["value"]) (fun _ _ _ _ _ _ us hl => match us, hl with | [_], _ => rfl), PySem.W.mg_of X G a2⟩,
    d_require_fraction := ⟨f3, _, fun_mk (st := s_require_fraction) l3 c3 k3, (fun_mk (st := s_require_fraction) l3 c3 k3).binds (ps := ["value"]) (fun _ _ _ _ _ _ us hl => match us, hl with | [_], _ => rfl), PySem.W.mg_of X G a3⟩,
    d_require_whole := ⟨f4, _, fun_mk (st := s_require_whole) l4 c4 k4, (fun_mk (st := s_require_whole) l4 c4 k4).binds (ps := ["value"]) (fun _ _ _ _ _ _ us hl => match us, hl with | [_], _ => rfl), PySem.W.mg_of X G a4⟩,
    d_lowest := ⟨f5, _, fun_mk (st := s_lowest) l5 c5 k5, (fun_mk (st := s_lowest) l5 c5 k5).binds (ps := ["top", "bottom"]) (fun _ _ _ _ _ _ us hl => match us, hl with | [_, _], _ => rfl), PySem.W.mg_of X G a5⟩,
    d_add := ⟨f6, _, fun_mk (st := s_add) l6 c6 k6, (fun_mk (st := s_add) l6 c6 k6).binds (ps := ["one", "other"]) (fun _ _ _ _ _ _ us hl => match us, hl with | [_, _], _ => rfl), PySem.W.mg_of X G a6⟩,
    d_subtract := ⟨f7, _, fun_mk (st := s_subtract) l7 c7 k7, (fun_mk (st := s_subtract) l7 c7 k7).binds (ps := ["one", "other"]) (fun _ _ _ _ _ _ us hl => match us, hl with | [_, _], _ => rfl), PySem.W.mg_of X G a7⟩,
    d_multiply := ⟨f8, _, fun_mk (st := s_multiply) l8 c8 k8, (fun_mk (st := s_multiply) l8 c8 k8).binds (ps := ["one", "other"]) (fun _ _ _ _ _ _ us hl => match us, hl with | [_, _], _ => rfl), PySem.W.mg_of X G a8⟩,
    d_divide := ⟨f9, _, fun_mk (st := s_divide) l9 c9 k9, (fun_mk (st := s_divide) l9 c9 k9).binds (ps := ["one", "other"]) (fun _ _ _ _ _ _ us hl => match us, hl with | [_, _], _ => rfl), PySem.W.mg_of X G a9⟩,
    d_fraction := ⟨f10, _, fun_mk (st := s_fraction) l10 c10 k10, (fun_mk (st := s_fraction) l10 c10 k10).binds (ps := ["top", "bottom"]) (fun _ _ _ _ _ _ us hl => match us, hl with | [_, _], _ => rfl), PySem.W.mg_of X G a10⟩,
    d_plus := ⟨f11, _, fun_mk (st := s_plus) l11 c11 k11, (fun_mk (st := s_plus) l11 c11 k11).binds (ps := ["one", "other"]) (fun _ _ _ _ _ _ us hl => match us, hl with | [_, _], _ => rfl), PySem.W.mg_of X G a11⟩,
    d_minus := ⟨f12, _, fun_mk (st := s_minus) l12 c12 k12, (fun_mk (st := s_minus) l12 c12 k12).binds (ps := ["one", "other"]) (fun _ _ _ _ _ _ us hl => match us, hl with | [_, _], _ => rfl), PySem.W.mg_of X G a12⟩,
    d_times := ⟨f13, _, fun_mk (st := s_times) l13 c13 k13, (fun_mk (st := s_times) l13 c13 k13).binds (ps := ["one", "other"]) (fun _ _ _ _ _ _ us hl => match us, hl with | [_, _], _ => rfl), PySem.W.mg_of X G a13⟩,
    d_over := ⟨f14, _, fun_mk (st := s_over) l14 c14 k14, (fun_mk (st := s_over) l14 c14 k14).binds (ps := ["one", "other"]) (fun _ _ _ _ _ _ us hl => match us, hl with | [_, _], _ => rfl), PySem.W.mg_of X G a14⟩,
    d_compare := ⟨f15, _, fun_mk (st := s_compare) l15 c15 k15, (fun_mk (st := s_compare) l15 c15 k15).binds (ps := ["one", "other"]) (fun _ _ _ _ _ _ us hl => match us, hl with | [_, _], _ => rfl), PySem.W.mg_of X G a15⟩,
    d__law_spread := ⟨f16, _, fun_mk (st := s__law_spread) l16 c16 k16, (fun_mk (st := s__law_spread) l16 c16 k16).binds (ps := ["_law_cell", "_law_at"]) (fun _ _ _ _ _ _ us hl => match us, hl with | [_, _], _ => rfl), PySem.W.mg_of X G a16⟩,
    d__law_open := ⟨f17, _, fun_mk (st := s__law_open) l17 c17 k17, (fun_mk (st := s__law_open) l17 c17 k17).binds (ps := ["_law_script"]) (fun _ _ _ _ _ _ us hl => match us, hl with | [_], _ => rfl), PySem.W.mg_of X G a17⟩,
    d__law_take := ⟨f18, _, fun_mk (st := s__law_take) l18 c18 k18, (fun_mk (st := s__law_take) l18 c18 k18).binds (ps := ["_law_pen", "_law_many"]) (fun _ _ _ _ _ _ us hl => match us, hl with | [_, _], _ => rfl), PySem.W.mg_of X G a18⟩,
    d__law_anew := ⟨f19, _, fun_mk (st := s__law_anew) l19 c19 k19, (fun_mk (st := s__law_anew) l19 c19 k19).binds (ps := ["_law_pen"]) (fun _ _ _ _ _ _ us hl => match us, hl with | [_], _ => rfl), PySem.W.mg_of X G a19⟩,
    d__law_one := ⟨f20, _, fun_mk (st := s__law_one) l20 c20 k20, (fun_mk (st := s__law_one) l20 c20 k20).binds (ps := ["_law_pen", "_law_some"]) (fun _ _ _ _ _ _ us hl => match us, hl with | [_, _], _ => rfl), PySem.W.mg_of X G a20⟩,
    d__law_is_whole := ⟨f21, _, fun_mk (st := s__law_is_whole) l21 c21 k21, (fun_mk (st := s__law_is_whole) l21 c21 k21).binds (ps := ["_law_value"]) (fun _ _ _ _ _ _ us hl => match us, hl with | [_], _ => rfl), PySem.W.mg_of X G a21⟩,
    d__law_common := ⟨f22, _, fun_mk (st := s__law_common) l22 c22 k22, (fun_mk (st := s__law_common) l22 c22 k22).binds (ps := ["_law_one_here", "_law_other"]) (fun _ _ _ _ _ _ us hl => match us, hl with | [_, _], _ => rfl), PySem.W.mg_of X G a22⟩,
    d__law_low := ⟨f23, _, fun_mk (st := s__law_low) l23 c23 k23, (fun_mk (st := s__law_low) l23 c23 k23).binds (ps := ["_law_top", "_law_bottom"]) (fun _ _ _ _ _ _ us hl => match us, hl with | [_, _], _ => rfl), PySem.W.mg_of X G a23⟩,
    d__law_add := ⟨f24, _, fun_mk (st := s__law_add) l24 c24 k24, (fun_mk (st := s__law_add) l24 c24 k24).binds (ps := ["_law_one_here", "_law_other"]) (fun _ _ _ _ _ _ us hl => match us, hl with | [_, _], _ => rfl), PySem.W.mg_of X G a24⟩,
    d__law_sub := ⟨f25, _, fun_mk (st := s__law_sub) l25 c25 k25, (fun_mk (st := s__law_sub) l25 c25 k25).binds (ps := ["_law_one_here", "_law_other"]) (fun _ _ _ _ _ _ us hl => match us, hl with | [_, _], _ => rfl), PySem.W.mg_of X G a25⟩,
    d__law_mul := ⟨f26, _, fun_mk (st := s__law_mul) l26 c26 k26, (fun_mk (st := s__law_mul) l26 c26 k26).binds (ps := ["_law_one_here", "_law_other"]) (fun _ _ _ _ _ _ us hl => match us, hl with | [_, _], _ => rfl), PySem.W.mg_of X G a26⟩,
    d__law_div := ⟨f27, _, fun_mk (st := s__law_div) l27 c27 k27, (fun_mk (st := s__law_div) l27 c27 k27).binds (ps := ["_law_one_here", "_law_other"]) (fun _ _ _ _ _ _ us hl => match us, hl with | [_, _], _ => rfl), PySem.W.mg_of X G a27⟩,
    d__law_sign := ⟨f28, _, fun_mk (st := s__law_sign) l28 c28 k28, (fun_mk (st := s__law_sign) l28 c28 k28).binds (ps := ["_law_one_here"]) (fun _ _ _ _ _ _ us hl => match us, hl with | [_], _ => rfl), PySem.W.mg_of X G a28⟩,
    d__law_any := ⟨f29, _, fun_mk (st := s__law_any) l29 c29 k29, (fun_mk (st := s__law_any) l29 c29 k29).binds (ps := ["_law_pen"]) (fun _ _ _ _ _ _ us hl => match us, hl with | [_], _ => rfl), PySem.W.mg_of X G a29⟩,
    d__law_is := ⟨f30, _, fun_mk (st := s__law_is) l30 c30 k30, (fun_mk (st := s__law_is) l30 c30 k30).binds (ps := ["_law_value"]) (fun _ _ _ _ _ _ us hl => match us, hl with | [_], _ => rfl), PySem.W.mg_of X G a30⟩,
    d__law_due := ⟨f31, _, fun_mk (st := s__law_due) l31 c31 k31, (fun_mk (st := s__law_due) l31 c31 k31).binds (ps := ["_law_word", "_law_one_here", "_law_other"]) (fun _ _ _ _ _ _ us hl => match us, hl with | [_, _, _], _ => rfl), PySem.W.mg_of X G a31⟩,
    d__law_call := ⟨f32, _, fun_mk (st := s__law_call) l32 c32 k32, (fun_mk (st := s__law_call) l32 c32 k32).binds (ps := ["_law_word", "_law_one_here", "_law_other"]) (fun _ _ _ _ _ _ us hl => match us, hl with | [_, _, _], _ => rfl), PySem.W.mg_of X G a32⟩,
    d__law_told := ⟨f33, _, fun_mk (st := s__law_told) l33 c33 k33, (fun_mk (st := s__law_told) l33 c33 k33).binds (ps := ["_law_word", "_law_one_here", "_law_other"]) (fun _ _ _ _ _ _ us hl => match us, hl with | [_, _, _], _ => rfl), PySem.W.mg_of X G a33⟩,
    d_law := ⟨fa, _, fun_mk (st := s_law) l34 c34 k34, (fun_mk (st := s_law) l34 c34 k34).binds (ps := ["_law_script"]) (fun _ _ _ _ _ _ us hl => match us, hl with | [_], _ => rfl), PySem.W.mg_of X G a34⟩,
    n_abs := PySem.W.mg_none_of X G z_abs,
    n_bool := PySem.W.mg_none_of X G z_bool,
    n_enumerate := PySem.W.mg_none_of X G z_enumerate,
    n_int := PySem.W.mg_none_of X G z_int,
    n_isinstance := PySem.W.mg_none_of X G z_isinstance,
    n_len := PySem.W.mg_none_of X G z_len,
    n_list := PySem.W.mg_none_of X G z_list,
    n_range := PySem.W.mg_none_of X G z_range,
    n_repr := PySem.W.mg_none_of X G z_repr,
    n_tuple := PySem.W.mg_none_of X G z_tuple,
    n_gcd := PySem.W.mg_of X G z_gcd,
    a_ZERO := aZ, c_ZERO := PySem.W.mg_of X G zZ, k_ZERO := ⟨_, _, _, lZ, rfl, rfl, (by show 2 ≤ sizeLine; decide), .cons ⟨_, rfl⟩ (.cons ⟨_, rfl⟩ .nil)⟩,
    n_ValueError := PySem.W.mg_none_of X G zVE, v_VE := zv, M := { C := CM_, f := fM_, fd := _, g := PySem.W.mg_of X G zM_, F := fun_mk (st := s_i_MixError) lM_ cM_ (base_ok xM_).2.2, b := (fun_mk (st := s_i_MixError) lM_ cM_ (base_ok xM_).2.2).binds (ps := ["self", "value"]) (fun _ _ _ _ _ _ us hl => match us, hl with | [_, _], _ => rfl), rd := (base_ok xM_).1, ga := (base_ok xM_).2.1, fi := iM_, kp := (base_ok xM_).2.2 },
    E_BadFraction := { C := C_BadFraction, f := f_BadFraction, fd := _, g := PySem.W.mg_of X G z_BadFraction, F := fun_mk (st := s_i_BadFraction) l_BadFraction c_BadFraction k_BadFraction, b := (fun_mk (st := s_i_BadFraction) l_BadFraction c_BadFraction k_BadFraction).binds (ps := ["self", "value"]) (fun _ _ _ _ _ _ us hl => match us, hl with | [_, _], _ => rfl), x := err_ok x_BadFraction } }
  exact ⟨PySem.W.fnOf "law" "law" (defArgs s_law) (defBody s_law) (defScope s_law) .none kV34 dc34 pm34 an34 cd34 ct34, fun s v => .of_eq rfl, fun base _ _ => ok_law T⟩
end Jf
open PySem PySem.W PyProof.Rows
set_option maxRecDepth 100000 in
set_option maxHeartbeats 0 in
theorem PySem.Challenge.cw_onenumber_k01_fractions_holds : PySem.Challenge.rw_onenumber_k01_fractions.Holds := by
  w_on; o_law; k_head; (case hw => w_witness2)
  k_fill
  refine Jf.walk_ofG (l := PySem.Challenge.rw_onenumber_k01_fractions) (n := 63) (k := 8) (x := "_law_script") (sp := fun w => Jf.spLaw _) rfl (by decide) rfl ⟨rfl, by decide, by decide⟩ (fun w h Y => PySem.W.kIn_of Y) ?F (fun w H a ns hl hS => ⟨a, ns, rfl, hS, hl, fun _ => rfl⟩)
  case F =>
    intro w mg fa h KX G hmg
    refine' Jf.all_mk KX G hmg ?a1 ?l1 ?c1 ?k1 ?a2 ?l2 ?c2 ?k2 ?a3 ?l3 ?c3 ?k3 ?a4 ?l4 ?c4 ?k4 ?a5 ?l5 ?c5 ?k5 ?a6 ?l6 ?c6 ?k6 ?a7 ?l7 ?c7 ?k7 ?a8 ?l8 ?c8 ?k8 ?a9 ?l9 ?c9 ?k9 ?a10 ?l10 ?c10 ?k10 ?a11 ?l11 ?c11 ?k11 ?a12 ?l12 ?c12 ?k12 ?a13 ?l13 ?c13 ?k13 ?a14 ?l14 ?c14 ?k14 ?a15 ?l15 ?c15 ?k15 ?a16 ?l16 ?c16 ?k16 ?a17 ?l17 ?c17 ?k17 ?a18 ?l18 ?c18 ?k18 ?a19 ?l19 ?c19 ?k19 ?a20 ?l20 ?c20 ?k20 ?a21 ?l21 ?c21 ?k21 ?a22 ?l22 ?c22 ?k22 ?a23 ?l23 ?c23 ?k23 ?a24 ?l24 ?c24 ?k24 ?a25 ?l25 ?c25 ?k25 ?a26 ?l26 ?c26 ?k26 ?a27 ?l27 ?c27 ?k27 ?a28 ?l28 ?c28 ?k28 ?a29 ?l29 ?c29 ?k29 ?a30 ?l30 ?c30 ?k30 ?a31 ?l31 ?c31 ?k31 ?a32 ?l32 ?c32 ?k32 ?a33 ?l33 ?c33 ?k33 ?a34 ?l34 ?c34 ?k34 ?z_abs ?z_bool ?z_enumerate ?z_int ?z_isinstance ?z_len ?z_list ?z_range ?z_repr ?z_tuple ?z_gcd ?zZ ?lZ ?zVE ?zv ?zM_ ?iM_ ?lM_ ?cM_ ?xM_ ?z_BadFraction ?i_BadFraction ?l_BadFraction ?c_BadFraction ?k_BadFraction ?x_BadFraction
    (case a1 => k_is)
    (case l1 => k_is)
    (case c1 => k_is)
    (case k1 => k_is)
    (case a2 => k_is)
    (case l2 => k_is)
    (case c2 => k_is)
    (case k2 => k_is)
    (case a3 => k_is)
    (case l3 => k_is)
    (case c3 => k_is)
    (case k3 => k_is)
    (case a4 => k_is)
    (case l4 => k_is)
    (case c4 => k_is)
    (case k4 => k_is)
    (case a5 => k_is)
    (case l5 => k_is)
    (case c5 => k_is)
    (case k5 => k_is)
    (case a6 => k_is)
    (case l6 => k_is)
    (case c6 => k_is)
    (case k6 => k_is)
    (case a7 => k_is)
    (case l7 => k_is)
    (case c7 => k_is)
    (case k7 => k_is)
    (case a8 => k_is)
    (case l8 => k_is)
    (case c8 => k_is)
    (case k8 => k_is)
    (case a9 => k_is)
    (case l9 => k_is)
    (case c9 => k_is)
    (case k9 => k_is)
    (case a10 => k_is)
    (case l10 => k_is)
    (case c10 => k_is)
    (case k10 => k_is)
    (case a11 => k_is)
    (case l11 => k_is)
    (case c11 => k_is)
    (case k11 => k_is)
    (case a12 => k_is)
    (case l12 => k_is)
    (case c12 => k_is)
    (case k12 => k_is)
    (case a13 => k_is)
    (case l13 => k_is)
    (case c13 => k_is)
    (case k13 => k_is)
    (case a14 => k_is)
    (case l14 => k_is)
    (case c14 => k_is)
    (case k14 => k_is)
    (case a15 => k_is)
    (case l15 => k_is)
    (case c15 => k_is)
    (case k15 => k_is)
    (case a16 => k_is)
    (case l16 => k_is)
    (case c16 => k_is)
    (case k16 => k_is)
    (case a17 => k_is)
    (case l17 => k_is)
    (case c17 => k_is)
    (case k17 => k_is)
    (case a18 => k_is)
    (case l18 => k_is)
    (case c18 => k_is)
    (case k18 => k_is)
    (case a19 => k_is)
    (case l19 => k_is)
    (case c19 => k_is)
    (case k19 => k_is)
    (case a20 => k_is)
    (case l20 => k_is)
    (case c20 => k_is)
    (case k20 => k_is)
    (case a21 => k_is)
    (case l21 => k_is)
    (case c21 => k_is)
    (case k21 => k_is)
    (case a22 => k_is)
    (case l22 => k_is)
    (case c22 => k_is)
    (case k22 => k_is)
    (case a23 => k_is)
    (case l23 => k_is)
    (case c23 => k_is)
    (case k23 => k_is)
    (case a24 => k_is)
    (case l24 => k_is)
    (case c24 => k_is)
    (case k24 => k_is)
    (case a25 => k_is)
    (case l25 => k_is)
    (case c25 => k_is)
    (case k25 => k_is)
    (case a26 => k_is)
    (case l26 => k_is)
    (case c26 => k_is)
    (case k26 => k_is)
    (case a27 => k_is)
    (case l27 => k_is)
    (case c27 => k_is)
    (case k27 => k_is)
    (case a28 => k_is)
    (case l28 => k_is)
    (case c28 => k_is)
    (case k28 => k_is)
    (case a29 => k_is)
    (case l29 => k_is)
    (case c29 => k_is)
    (case k29 => k_is)
    (case a30 => k_is)
    (case l30 => k_is)
    (case c30 => k_is)
    (case k30 => k_is)
    (case a31 => k_is)
    (case l31 => k_is)
    (case c31 => k_is)
    (case k31 => k_is)
    (case a32 => k_is)
    (case l32 => k_is)
    (case c32 => k_is)
    (case k32 => k_is)
    (case a33 => k_is)
    (case l33 => k_is)
    (case c33 => k_is)
    (case k33 => k_is)
    (case a34 => k_is)
    (case l34 => k_is)
    (case c34 => k_is)
    (case k34 => k_is)
    (case z_abs => k_is)
    (case z_bool => k_is)
    (case z_enumerate => k_is)
    (case z_int => k_is)
    (case z_isinstance => k_is)
    (case z_len => k_is)
    (case z_list => k_is)
    (case z_range => k_is)
    (case z_repr => k_is)
    (case z_tuple => k_is)
    (case z_gcd => k_is)
    (case zZ => k_is)
    (case lZ => k_is)
    (case zVE => k_is)
    (case zv => k_is)
    (case zM_ => k_is)
    (case iM_ => k_is)
    (case lM_ => k_is)
    (case cM_ => k_is)
    (case xM_ => kernel_rfl)
    (case z_BadFraction => k_is)
    (case i_BadFraction => k_is)
    (case l_BadFraction => k_is)
    (case c_BadFraction => k_is)
    (case k_BadFraction => k_is)
    (case x_BadFraction => kernel_rfl)
