import PyProof.Rows.All
import Wide.All
import OpenK.AllK
import Wide.FinOn
import HandS.ForMost
import HandS.Evl
import HandS.Gcd
import HandS.Wide
import HandS.Flow
import HandS.NoneIn
import HandS.IsInst
import HandS.Exc
import HandS.TryOnly
import HandS.ExcOwn
import HandS.WordsExc
import HandS.ExcInit
import HandS.ExcField
import HandS.ExcIs
import HandS.SetFor
import HandS.TupLe
import HandS.TryMany
import HandS.TupMul
import HandS.TupAny
import HandS.Style
import KE.KExcIs
import PyProof.ReprRoads
import HandS.AnyAll
import PyProof.WalksPairs
import PyProof.GenCompT
import PyProof.SumAny
import HandS.GenList
import KE.KTypeName
import PyProof.ListCopy
import KE.KRevSl
import PySem.Challenge.RW_onenumber_k36_sizes
set_option Elab.async false
set_option linter.all false
/-! fractions as core rationals -/
namespace Jf
theorem gcd_pos {n d : Int} (hd : d ≠ 0) : 0 < Nat.gcd n.natAbs d.natAbs := Nat.gcd_pos_of_pos_right _ (by omega)
theorem low_split (n d : Int) (hd : d ≠ 0) : ∃ (g : Nat) (k m : Int), g = Nat.gcd n.natAbs d.natAbs ∧ 0 < g ∧ n = (g : Int) * k ∧ d = (g : Int) * m ∧ (Rat.divInt n d).num = d.sign * k ∧ ((Rat.divInt n d).den : Int) = d.sign * m := by
  have h1 : ((Nat.gcd n.natAbs d.natAbs : Nat) : Int) ∣ n := Int.ofNat_dvd_left.mpr (Nat.gcd_dvd_left _ _)
  have h2 : ((Nat.gcd n.natAbs d.natAbs : Nat) : Int) ∣ d := Int.ofNat_dvd_left.mpr (Nat.gcd_dvd_right _ _)
  obtain ⟨k, hk⟩ := h1
  obtain ⟨m, hm⟩ := h2
  have hp := gcd_pos (n := n) hd
  refine ⟨_, k, m, rfl, hp, hk, hm, ?_, ?_⟩
  · have hg : (d.gcd n : Nat) = Nat.gcd n.natAbs d.natAbs := by rw [Int.gcd_comm]; rfl
    rw [Rat.num_divInt, hg]
    generalize hG : Nat.gcd n.natAbs d.natAbs = G at *
    have hG0 : (G : Int) ≠ 0 := by omega
    rw [hk, ← Int.mul_assoc, Int.mul_comm d.sign (G : Int), Int.mul_assoc, Int.mul_ediv_cancel_left _ hG0]
  · have hg : (d.gcd n : Nat) = Nat.gcd n.natAbs d.natAbs := by rw [Int.gcd_comm]; rfl
    rw [Rat.den_divInt, if_neg hd, hg]
    generalize hG : Nat.gcd n.natAbs d.natAbs = G at *
    have hG0 : (G : Int) ≠ 0 := by omega
    have e : d.natAbs = G * m.natAbs := by rw [hm, Int.natAbs_mul]; rfl
    rw [e, Nat.mul_div_cancel_left _ hp]
    have hs : d.sign = m.sign := by rw [hm, Int.sign_mul, Int.sign_natCast_of_ne_zero (by omega), Int.one_mul]
    rw [hs, Int.sign_mul_self]
/-- the program's lowest -/
theorem lowest_eq (n d : Int) (hd : d ≠ 0) :
    n.fdiv (if d < 0 then -((Nat.gcd n.natAbs d.natAbs : Nat) : Int) else ((Nat.gcd n.natAbs d.natAbs : Nat) : Int)) = (Rat.divInt n d).num ∧
    d.fdiv (if d < 0 then -((Nat.gcd n.natAbs d.natAbs : Nat) : Int) else ((Nat.gcd n.natAbs d.natAbs : Nat) : Int)) = ((Rat.divInt n d).den : Int) := by
  obtain ⟨g, k, m, hg, hp, hn, hm, e1, e2⟩ := low_split n d hd
  rw [← hg, e1, e2]
  have hg0 : (g : Int) ≠ 0 := by omega
  by_cases h : d < 0
  · rw [if_pos h, Int.sign_eq_neg_one_of_neg h]
    have hn' : n = (-(g : Int)) * (-k) := by rw [hn]; grind
    have hm' : d = (-(g : Int)) * (-m) := by rw [hm]; grind
    have hg1 : (-(g : Int)) ≠ 0 := by omega
    constructor
    · rw [hn', Int.mul_fdiv_cancel_left _ hg1]; omega
    · rw [hm', Int.mul_fdiv_cancel_left _ hg1]; omega
  · rw [if_neg h, Int.sign_eq_one_of_pos (by omega)]
    constructor
    · rw [hn, Int.mul_fdiv_cancel_left _ hg0]; omega
    · rw [hm, Int.mul_fdiv_cancel_left _ hg0]; omega
/-- the law's low -/
theorem low_eq (n d : Int) (hd : d ≠ 0) (s : Int) (hs : s = if d < 0 then -1 else 1) :
    (s * n) / ((Nat.gcd n.natAbs d.natAbs : Nat) : Int) = (Rat.divInt n d).num ∧ (s * d) / ((Nat.gcd n.natAbs d.natAbs : Nat) : Int) = ((Rat.divInt n d).den : Int) := by
  obtain ⟨g, k, m, hg, hp, hn, hm, e1, e2⟩ := low_split n d hd
  rw [← hg, e1, e2]
  have hg0 : (g : Int) ≠ 0 := by omega
  have hs' : s = d.sign := by
    by_cases h : d < 0
    · rw [hs, if_pos h, Int.sign_eq_neg_one_of_neg h]
    · rw [hs, if_neg h, Int.sign_eq_one_of_pos (by omega)]
  rw [hs']
  constructor
  · rw [show d.sign * n = (g : Int) * (d.sign * k) by rw [hn]; grind, Int.mul_ediv_cancel_left _ hg0]
  · rw [show d.sign * d = (g : Int) * (d.sign * m) by
      generalize d.sign = z
      rw [hm]; grind, Int.mul_ediv_cancel_left _ hg0]
theorem num_le (n d : Int) (hd : d ≠ 0) : (Rat.divInt n d).num.natAbs ≤ n.natAbs := by
  obtain ⟨g, k, m, hg, hp, hn, hm, e1, e2⟩ := low_split n d hd
  have hs : d.sign.natAbs = 1 := by rw [Int.natAbs_sign, if_neg hd]
  rw [e1, Int.natAbs_mul, hs, hn, Int.natAbs_mul, Nat.one_mul]
  exact Nat.le_mul_of_pos_left _ (by omega)
theorem den_le (n d : Int) (hd : d ≠ 0) : (Rat.divInt n d).den ≤ d.natAbs := by
  obtain ⟨g, k, m, hg, hp, hn, hm, e1, e2⟩ := low_split n d hd
  have hs : d.sign.natAbs = 1 := by rw [Int.natAbs_sign, if_neg hd]
  have e3 : (Rat.divInt n d).den = m.natAbs := by
    have := congrArg Int.natAbs e2
    rw [Int.natAbs_mul, hs, Nat.one_mul] at this
    simpa using this
  rw [e3]
  have : d.natAbs = g * m.natAbs := by rw [hm, Int.natAbs_mul]; rfl
  rw [this]
  exact Nat.le_mul_of_pos_left _ (by omega)
theorem den_pos (q : Rat) : (0 : Int) < (q.den : Int) := by have := q.den_pos; omega
theorem den_ne (q : Rat) : (q.den : Int) ≠ 0 := by have := q.den_pos; omega
theorem add_eq (q r : Rat) : Rat.divInt (q.num * r.den + r.num * q.den) (q.den * r.den) = q + r := by
  rw [← Rat.divInt_add_divInt _ _ (den_ne q) (den_ne r), Rat.num_divInt_den, Rat.num_divInt_den]
theorem sub_eq (q r : Rat) : Rat.divInt (q.num * r.den - r.num * q.den) (q.den * r.den) = q - r := by
  rw [← Rat.divInt_sub_divInt _ _ (den_ne q) (den_ne r), Rat.num_divInt_den, Rat.num_divInt_den]
theorem mul_eq (q r : Rat) : Rat.divInt (q.num * r.num) (q.den * r.den) = q * r := by
  rw [← Rat.divInt_mul_divInt, Rat.num_divInt_den, Rat.num_divInt_den]
theorem div_eq (q r : Rat) : Rat.divInt (q.num * r.den) (q.den * r.num) = q / r := by
  rw [Rat.div_def, Rat.inv_def, ← Rat.divInt_mul_divInt, Rat.num_divInt_den]
theorem num_ne {r : Rat} (h : r ≠ 0) : r.num ≠ 0 := fun e => h (Rat.num_eq_zero.mp e)
theorem red (q : Rat) : Nat.gcd q.num.natAbs (q.den : Int).natAbs = 1 := by
  have := q.reduced
  simpa [Nat.Coprime] using this
/-- compare -/
def cmp (q r : Rat) : Int := if q = r then 0 else if r < q then 1 else -1
theorem cmp_eq (q r : Rat) : (if (q - r).num = 0 then (0 : Int) else if 0 < (q - r).num then 1 else -1) = cmp q r := by
  unfold cmp
  have e : (q - r).num = 0 ↔ q = r := by
    rw [Rat.num_eq_zero]
    constructor <;> intro h <;> grind
  by_cases h : q = r
  · rw [if_pos (e.mpr h), if_pos h]
  · rw [if_neg (fun z => h (e.mp z)), if_neg h]
    have e2 : 0 < (q - r).num ↔ r < q := by
      have h1 : (0 : Int) ≤ (q - r).num ↔ 0 ≤ q - r := Rat.num_nonneg
      have h2 : (q - r).num ≠ 0 := fun z => h (e.mp z)
      constructor
      · intro z
        have := h1.mp (by omega)
        grind
      · intro z
        have : 0 ≤ q - r := by grind
        have := h1.mpr this
        omega
    by_cases z : r < q
    · rw [if_pos z, if_pos (e2.mpr z)]
    · rw [if_neg z, if_neg (fun y => z (e2.mp y))]
/-! bounds by powers of two -/
theorem lt_pow_mul {a b m n : Nat} (ha : a < 2 ^ m) (hb : b < 2 ^ n) : a * b < 2 ^ (m + n) := by
  rw [Nat.pow_add]
  exact Nat.mul_lt_mul'' ha hb
theorem lt_pow_add {a b n : Nat} (ha : a < 2 ^ n) (hb : b < 2 ^ n) : a + b < 2 ^ (n + 1) := by
  rw [Nat.pow_succ]; omega
theorem lt_pow_mono {a m n : Nat} (h : m ≤ n) (ha : a < 2 ^ m) : a < 2 ^ n := Nat.lt_of_lt_of_le ha (Nat.pow_le_pow_right (by decide) h)
theorem abs_add_le (a b : Int) : (a + b).natAbs ≤ a.natAbs + b.natAbs := by omega
theorem abs_sub_le (a b : Int) : (a - b).natAbs ≤ a.natAbs + b.natAbs := by omega
/-- a fraction within b bits -/
def Bd (b : Nat) (q : Rat) : Prop := q.num.natAbs < 2 ^ b ∧ q.den < 2 ^ b
theorem Bd.mono {b c : Nat} {q : Rat} (h : b ≤ c) (x : Bd b q) : Bd c q := ⟨lt_pow_mono h x.1, lt_pow_mono h x.2⟩
theorem bd_divInt {n d : Int} {b : Nat} (hd : d ≠ 0) (hn : n.natAbs < 2 ^ b) (hb : d.natAbs < 2 ^ b) : Bd b (Rat.divInt n d) :=
  ⟨Nat.lt_of_le_of_lt (num_le n d hd) hn, Nat.lt_of_le_of_lt (den_le n d hd) hb⟩
theorem bn_mul {i j : Int} {a b : Nat} (ha : i.natAbs < 2 ^ a) (hb : j.natAbs < 2 ^ b) : (i * j).natAbs < 2 ^ (a + b) := by
  rw [Int.natAbs_mul]
  exact lt_pow_mul ha hb
theorem bn_add {i j : Int} {a : Nat} (ha : i.natAbs < 2 ^ a) (hb : j.natAbs < 2 ^ a) : (i + j).natAbs < 2 ^ (a + 1) :=
  Nat.lt_of_le_of_lt (abs_add_le i j) (lt_pow_add ha hb)
theorem bn_sub {i j : Int} {a : Nat} (ha : i.natAbs < 2 ^ a) (hb : j.natAbs < 2 ^ a) : (i - j).natAbs < 2 ^ (a + 1) :=
  Nat.lt_of_le_of_lt (abs_sub_le i j) (lt_pow_add ha hb)
theorem bd_den {q : Rat} {b : Nat} (x : Bd b q) : (q.den : Int).natAbs < 2 ^ b := by
  have := x.2
  simpa using this
/-! Euclid's steps end -/
def euc : Nat → Nat → Nat → Nat × Nat
  | 0, a, b => (a, b)
  | n + 1, a, b => euc n b (a % b)
theorem mod_half {a b : Nat} (hb : 0 < b) (h : b ≤ a) : 2 * (a % b) < a := by
  have h1 : a % b < b := Nat.mod_lt _ hb
  have h2 := Nat.div_add_mod a b
  have h3 : 1 ≤ a / b := Nat.div_pos h hb
  have h4 : b * 1 ≤ b * (a / b) := Nat.mul_le_mul_left b h3
  omega
/-- one step halves the product once b is at most a -/
theorem step_half {a b n : Nat} (hb : 0 < b) (h : b ≤ a) (hp : a * b < 2 ^ (n + 1)) : b * (a % b) < 2 ^ n := by
  have h1 := mod_half hb h
  have h2 : b * (2 * (a % b)) ≤ b * a := Nat.mul_le_mul_left b (Nat.le_of_lt h1)
  rw [Nat.pow_succ] at hp
  have h3 : b * (2 * (a % b)) = 2 * (b * (a % b)) := Nat.mul_left_comm _ _ _
  have h4 : b * a = a * b := Nat.mul_comm _ _
  omega
/-- where one is with n steps left: small enough to end -/
def EucEnds (n a b : Nat) : Prop := b = 0 ∨ (b ≤ a ∧ 1 ≤ n ∧ a * b < 2 ^ (n - 1)) ∨ (2 ≤ n ∧ a * b < 2 ^ (n - 2))
theorem EucEnds.step {n a b : Nat} (hb : b ≠ 0) (h : EucEnds (n + 1) a b) : EucEnds n b (a % b) := by
  have hb0 : 0 < b := Nat.pos_of_ne_zero hb
  have hlt : a % b < b := Nat.mod_lt _ hb0
  rcases h with h | ⟨h1, h2, h3⟩ | ⟨h2, h3⟩
  · exact absurd h hb
  · cases n with
    | zero =>
      have : a * b < 1 := h3
      have h5 : 0 < a * b := Nat.mul_pos (Nat.lt_of_lt_of_le hb0 h1) hb0
      omega
    | succ n =>
      refine .inr (.inl ⟨Nat.le_of_lt hlt, by omega, ?_⟩)
      exact step_half hb0 h1 h3
  · have h6 : b * (a % b) ≤ a * b := by
      rw [Nat.mul_comm]
      exact Nat.mul_le_mul_right b (Nat.mod_le a b)
    refine .inr (.inl ⟨Nat.le_of_lt hlt, by omega, ?_⟩)
    exact Nat.lt_of_le_of_lt h6 (by simpa using h3)
theorem EucEnds.zero {a b : Nat} (h : EucEnds 0 a b) : b = 0 := by
  rcases h with h | ⟨_, h, _⟩ | ⟨h, _⟩ <;> omega
theorem gcd_step {a b g : Nat} (h : Nat.gcd a b = g) : Nat.gcd b (a % b) = g := by
  rw [← h, Nat.gcd_comm a b, Nat.gcd_rec b a, Nat.gcd_comm]
theorem gcd_end {a g : Nat} (h : Nat.gcd a 0 = g) : a = g := by rw [← h, Nat.gcd_zero_right]
end Jf
set_option Elab.async false
set_option linter.all false
namespace Jf
theorem cmp_64 (q r : Rat) : (cmp q r).natAbs < 2 ^ 64 := by
  have : (cmp q r).natAbs ≤ 1 := by unfold cmp; split <;> (try split) <;> decide
  exact Nat.lt_of_le_of_lt this (by decide)
theorem cmp_anti (q r : Rat) : cmp q r = 0 - cmp r q := by unfold cmp; grind
theorem cmp_add (q r s : Rat) : cmp (q + s) (r + s) = cmp q r := by unfold cmp; grind
theorem cmp_sub (q r : Rat) : cmp (q - r) 0 = cmp q r := by unfold cmp; grind
theorem cmp_zero (q r : Rat) : cmp q r = 0 ↔ q = r := by unfold cmp; grind
theorem cmp_trans {q r s : Rat} (h1 : 0 ≤ cmp q r) (h2 : 0 ≤ cmp r s) : ¬ cmp q s < 0 := by unfold cmp at *; grind
theorem cmp_mul (q r s : Rat) : cmp (q * s) (r * s) = cmp q r * cmp s 0 := by
  unfold cmp
  by_cases h : q = r
  · subst h; simp
  · by_cases h0 : s = 0
    · subst h0; simp
    · have e1 : (q - r) * s ≠ 0 := by
        intro e
        rcases Rat.mul_eq_zero.mp e with e | e <;> grind
      have ne : ¬ q * s = r * s := by grind
      rw [if_neg ne, if_neg h, if_neg h0]
      by_cases hs : 0 < s
      · by_cases hq : r < q
        · have := Rat.mul_pos (show 0 < q - r by grind) hs
          grind
        · have := Rat.mul_pos (show 0 < r - q by grind) hs
          grind
      · by_cases hq : r < q
        · have := Rat.mul_pos (show 0 < q - r by grind) (show 0 < -s by grind)
          grind
        · have := Rat.mul_pos (show 0 < r - q by grind) (show 0 < -s by grind)
          grind
theorem six (q : Rat) : Rat.divInt (q.num * 6) (q.den * 6) = q := by
  rw [← Rat.divInt_mul_divInt, Rat.num_divInt_den, Rat.divInt_self' (by decide), Rat.mul_one]
theorem negs (q : Rat) : Rat.divInt (0 - q.num) (0 - q.den) = q := by
  rw [show 0 - q.num = q.num * (-1) by omega, show (0 : Int) - q.den = q.den * (-1) by omega, ← Rat.divInt_mul_divInt, Rat.num_divInt_den, Rat.divInt_self' (by decide), Rat.mul_one]
theorem r_assoc (a b c : Rat) : a + b + c = a + (b + c) := by grind
theorem r_massoc (a b c : Rat) : a * b * c = a * (b * c) := by grind
theorem r_dist (a b c : Rat) : a * (b + c) = a * b + a * c := by grind
theorem r_addsub (a b : Rat) : a + b - b = a := by grind
theorem r_subadd (a b : Rat) : a - b + b = a := by grind
theorem r_divmul (a b : Rat) (h : b ≠ 0) : a / b * b = a := by grind
theorem r_muldiv (a b : Rat) (h : b ≠ 0) : a * b / b = a := by grind
end Jf
set_option Elab.async false
set_option linter.all false
set_option maxRecDepth 100000
set_option maxHeartbeats 4000000
namespace Jf
open PySem PySem.Spec PyProof.Rows L2 Evl
/-- a def of the text behind the top -/
structure FT (K : PySem.W.Frag) (mg : Str → Option Value) (x : Str) (st : Stmt) (ps : List Str) where
  a : Addr
  fd : FuncData
  F : Fun K x x st a fd
  b : Binds K fd ps []
  g : mg x = some (.ref a)
/-- // by a divisor that is not 0, below 2 ^ 9000 in size -/
def CDivZ (_ j : Int) : Prop := j ≠ 0 ∧ j.natAbs.log2 < 9000
theorem op_fdivZ {X : Cx} : OpR X (binaryOp .FloorDiv) (rI CDivZ fun i j => .int (i.fdiv j)) := opI fun i j _ _ _ _ _ hc q =>
  floordiv_int hc.1 q (.inl (PyProof.noPylong_of_log2 hc.2))
theorem log_lt {j : Nat} {b c : Nat} (h : j < 2 ^ b) (hc : b ≤ c) (h0 : 0 < c) : j.log2 < c :=
  Nat.lt_of_lt_of_le (PySem.Flt.log2_lt_of h0 (lt_pow_mono hc h)) (Nat.le_refl _)
theorem mulW {i j : Int} {a b : Nat} (ha : i.natAbs < 2 ^ a) (hb : j.natAbs < 2 ^ b) (h : a + b ≤ 900000) : CMulW i j :=
  wide_mul (lt_pow_mono (Nat.le_succ a) ha) (lt_pow_mono (Nat.le_succ b) hb) (Nat.succ_pos _) (Nat.succ_pos _) (by omega)

/-! ### what evaluates to a value of a kind -/
def EvP (te : TE) (σ : L2.St) (H : Hp) (P : V → Hp → Prop) : Prop := ∀ H1, Ex H H1 → ∀ Q : VK, (∀ v H2, Ex H1 H2 → P v H2 → Q v H2) → te σ H1 Q
/-- a fraction of at most b bits stands at v -/
def Fr (K : PySem.W.Frag) (b : Nat) (q : Rat) (v : V) (H : Hp) : Prop := ∃ p, v = .ref p ∧ SqT K H p [.int q.num, .int (q.den : Int)] ∧ Bd b q
section
variable {K : PySem.W.Frag} {σ : L2.St} {H H' : Hp} {te ta tb : TE} {P : V → Hp → Prop} {v : V} {b c n : Nat} {q r : Rat}
theorem Fr.ex (e : Ex H H') (h : Fr K b q v H) : Fr K b q v H' := by
  obtain ⟨p, rfl, h, x⟩ := h
  exact ⟨p, rfl, ex_t e h, x⟩
theorem Fr.mono (e : b ≤ c) (h : Fr K b q v H) : Fr K c q v H := by
  obtain ⟨p, rfl, h, x⟩ := h
  exact ⟨p, rfl, h, x.mono e⟩
theorem Fr.bd (h : Fr K b q v H) : Bd b q := h.choose_spec.2.2
theorem EvP.mono (e : Ex H H') (h : EvP te σ H P) : EvP te σ H' P := fun H1 a Q q => h H1 (e.trans a) Q q
theorem ep_var {i : Nat} (h : σ[i]? = some (some v)) (hf : Fr K b q v H) : EvP (tVar i) σ H (Fr K b q) := fun H1 e _ k => ⟨v, h, k v H1 (Ex.refl H1) (hf.ex e)⟩
theorem ep_mono (h : EvP te σ H (Fr K b q)) (e : b ≤ c) : EvP te σ H (Fr K c q) := fun H1 a Q k => h H1 a Q fun v H2 e2 f => k v H2 e2 (f.mono e)
theorem ep_is (h : EvP te σ H (Fr K b q)) (e : q = r) : EvP te σ H (Fr K b r) := e ▸ h
theorem ev_0 (h : EvP te σ H (Fr K b q)) : Ev (tOp (rIxT K) te (tC (.int 0))) σ H (.int q.num) := fun H1 a Q k => h H1 a _ fun v H2 e2 f => by
  obtain ⟨p, rfl, f, _⟩ := f
  exact ⟨p, _, 0, .int q.num, rfl, rfl, f, rfl, k H2 e2⟩
theorem ev_1 (h : EvP te σ H (Fr K b q)) : Ev (tOp (rIxT K) te (tC (.int 1))) σ H (.int (q.den : Int)) := fun H1 a Q k => h H1 a _ fun v H2 e2 f => by
  obtain ⟨p, rfl, f, _⟩ := f
  exact ⟨p, _, 1, .int (q.den : Int), rfl, rfl, f, rfl, k H2 e2⟩
/-- a new pair of ints that are a fraction's -/
theorem ep_tup {x y : Int} (ha : Ev ta σ H (.int x)) (hb : Ev tb σ H (.int y)) (e1 : x = q.num) (e2 : y = (q.den : Int)) (bd : Bd b q) : EvP (tTup (tCons ta (tCons tb tNil))) σ H (Fr K b q) := fun H1 a Q k =>
  ha H1 a _ fun H2 a2 => hb H2 (a.trans a2) _ fun H3 a3 => ⟨by show 2 ≤ sizeLine; decide, fun p hp => k _ _ ((a2.trans a3).trans (Ex.new hp)) ⟨p, rfl, by subst e1 e2; exact SqT.of upd_same, bd⟩⟩
theorem ev_mulW {x y : Int} (ha : Ev ta σ H (.int x)) (hb : Ev tb σ H (.int y)) (h : CMulW x y) : Ev (tOp (rI CMulW fun i j => .int (i * j)) ta tb) σ H (.int (x * y)) := ev_op ha hb (rv_I h)
theorem ev_add {x y : Int} (ha : Ev ta σ H (.int x)) (hb : Ev tb σ H (.int y)) : Ev (tOp (rI0 fun i j => .int (i + j)) ta tb) σ H (.int (x + y)) := ev_op ha hb rv_I0
theorem ev_sub {x y : Int} (ha : Ev ta σ H (.int x)) (hb : Ev tb σ H (.int y)) : Ev (tOp (rI0 fun i j => .int (i - j)) ta tb) σ H (.int (x - y)) := ev_op ha hb rv_I0
theorem ev_fdivZ {x y : Int} (ha : Ev ta σ H (.int x)) (hb : Ev tb σ H (.int y)) (h : CDivZ x y) : Ev (tOp (rI CDivZ fun i j => .int (i.fdiv j)) ta tb) σ H (.int (x.fdiv y)) := ev_op ha hb (rv_I h)
theorem ev_neg {x : Int} (ha : Ev ta σ H (.int x)) : Ev (tUn (rU fun i => .int (-i)) ta) σ H (.int (-x)) := ev_un ha ru_neg
theorem s_retP {D : Ends} (h : EvP te σ H P) (k : ∀ v H1, Ex H H1 → P v H1 → D.rt v H1) : tRet te D σ H := h H (Ex.refl H) _ k
theorem s_asgP {D : Ends} {i : Nat} (h : EvP te σ H P) (k : ∀ v H1, Ex H H1 → P v H1 → D.nx (σ.set i (some v)) H1) : tAsg te (gName i) D σ H := h H (Ex.refl H) _ k
theorem s_dropP {D : Ends} (h : EvP te σ H P) (k : ∀ v H1, Ex H H1 → P v H1 → D.nx σ H1) : tDrop te D σ H := h H (Ex.refl H) _ k

/-! ### deep equality of two fractions -/
theorem Fr.dp (h : Fr K b q v H) : Dp K H v (.tuple [.int q.num, .int (q.den : Int)]) := by
  obtain ⟨p, rfl, h, _⟩ := h
  exact .tup h (.cons (.int _) (.cons (.int _) .nil))
theorem eqv_fr (q r : Rat) : PyData.eqv (.tuple [.int q.num, .int (q.den : Int)]) (.tuple [.int r.num, .int (r.den : Int)]) = decide (q = r) := by
  simp only [PyData.eqv, PyData.eqvAll, Bool.and_true]
  have e : q = r ↔ q.num = r.num ∧ (q.den : Int) = (r.den : Int) := by
    constructor
    · rintro rfl
      exact ⟨rfl, rfl⟩
    · rintro ⟨h1, h2⟩
      exact Rat.ext h1 (by omega)
  rw [Bool.eq_iff_iff]
  simp [e]
theorem ev_neD (ha : EvP ta σ H (Fr K b q)) (hb : EvP tb σ H (Fr K c r)) : Ev (tOp (rNeD K) ta tb) σ H (.bl (!decide (q = r))) := fun H1 a Q k =>
  ha H1 a _ fun x H2 a2 f => hb H2 (a.trans a2) _ fun y H3 a3 g => ⟨_, _, (f.ex a3).dp, g.dp, rfl, rfl, by
    rw [eqv_fr]
    exact k H3 (a2.trans a3)⟩
theorem ev_eqD (ha : EvP ta σ H (Fr K b q)) (hb : EvP tb σ H (Fr K c r)) : Ev (tOp (rEqD K) ta tb) σ H (.bl (decide (q = r))) := fun H1 a Q k =>
  ha H1 a _ fun x H2 a2 f => hb H2 (a.trans a2) _ fun y H3 a3 g => ⟨_, _, (f.ex a3).dp, g.dp, rfl, rfl, by
    rw [eqv_fr]
    exact k H3 (a2.trans a3)⟩

/-! ### a def of two fractions -/
/-- op q r, of b + c + 1 bits at most -/
def sp2 (K : PySem.W.Frag) (ok : Rat → Prop) (f : Rat → Rat → Rat) : Sp := fun vs H Q _ => ∃ (u v : V) (b c : Nat) (q r : Rat), vs = [u, v] ∧ Fr K b q u H ∧ Fr K c r v H ∧ b + c + 1 ≤ 8000 ∧ ok r ∧
  ∀ z H', Ex H H' → Fr K (b + c + 1) (f q r) z H' → Q z H'
theorem ep_2 {ok : Rat → Prop} {f : Rat → Rat → Rat} {E : XK} (ha : EvP ta σ H (Fr K b q)) (hb : EvP tb σ H (Fr K c r)) (hk : ok r) (hl : b + c + 1 ≤ 8000) (hn : b + c + 1 = n) : EvP (tCall (sp2 K ok f) [] E (tCons ta (tCons tb tNil))) σ H (Fr K n (f q r)) := fun H1 a Q k =>
  ha H1 a _ fun x H2 a2 g => hb H2 (a.trans a2) _ fun y H3 a3 h => ⟨x, y, b, c, q, r, rfl, g.ex a3, h, hl, hk, fun z H' e w => k z H' ((a2.trans a3).trans e) (by subst hn; exact w)⟩
/-- compare -/
def spC (K : PySem.W.Frag) : Sp := fun vs H Q _ => ∃ (u v : V) (b c : Nat) (q r : Rat), vs = [u, v] ∧ Fr K b q u H ∧ Fr K c r v H ∧ b + c + 1 ≤ 8000 ∧ ∀ H', Ex H H' → Q (.int (cmp q r)) H'
theorem ev_C {E : XK} (ha : EvP ta σ H (Fr K b q)) (hb : EvP tb σ H (Fr K c r)) (hl : b + c + 1 ≤ 8000) : Ev (tCall (spC K) [] E (tCons ta (tCons tb tNil))) σ H (.int (cmp q r)) := fun H1 a Q k =>
  ha H1 a _ fun x H2 a2 g => hb H2 (a.trans a2) _ fun y H3 a3 h => ⟨x, y, b, c, q, r, rfl, g.ex a3, h, hl, fun H' e => k H' ((a2.trans a3).trans e)⟩
/-- is_fraction of a fraction; require_fraction of one -/
def spIs (K : PySem.W.Frag) (x : V) : Sp := fun vs H Q _ => ∃ (u : V) (b : Nat) (q : Rat), vs = [u] ∧ Fr K b q u H ∧ ∀ H', Ex H H' → Q x H'
theorem ev_Is {E : XK} {x : V} (ha : EvP ta σ H (Fr K b q)) : Ev (tCall (spIs K x) [] E (tCons ta tNil)) σ H x := fun H1 a Q k =>
  ha H1 a _ fun u H2 a2 g => ⟨u, b, q, rfl, g, fun H' e => k H' (a2.trans e)⟩
/-- lowest, fraction of two ints -/
def spLow (K : PySem.W.Frag) : Sp := fun vs H Q _ => ∃ (n d : Int) (b : Nat), vs = [.int n, .int d] ∧ d ≠ 0 ∧ n.natAbs < 2 ^ b ∧ d.natAbs < 2 ^ b ∧ b ≤ 8000 ∧ ∀ z H', Ex H H' → Fr K b (Rat.divInt n d) z H' → Q z H'
theorem ep_Low {E : XK} {x y : Int} (ha : Ev ta σ H (.int x)) (hb : Ev tb σ H (.int y)) (hd : y ≠ 0) (hx : x.natAbs < 2 ^ b) (hy : y.natAbs < 2 ^ b) (hl : b ≤ 8000) (hq : Rat.divInt x y = q) : EvP (tCall (spLow K) [] E (tCons ta (tCons tb tNil))) σ H (Fr K b q) := fun H1 a Q k =>
  ha H1 a _ fun H2 a2 => hb H2 (a.trans a2) _ fun H3 a3 => ⟨x, y, b, rfl, hd, hx, hy, hl, fun z H' e w => k z H' ((a2.trans a3).trans e) (by subst hq; exact w)⟩
/-- of any int whether it is one; require_whole -/
def spWhole (x : V) : Sp := fun vs H Q _ => ∃ n : Int, vs = [.int n] ∧ ∀ H', Ex H H' → Q x H'
theorem ev_Whole {E : XK} {x : V} {n : Int} (ha : Ev ta σ H (.int n)) : Ev (tCall (spWhole x) [] E (tCons ta tNil)) σ H x := fun H1 a Q k =>
  ha H1 a _ fun H2 a2 => ⟨n, rfl, fun H' e => k H' (a2.trans e)⟩
end
end Jf
set_option Elab.async false
set_option linter.all false
set_option maxRecDepth 100000
set_option maxHeartbeats 4000000
namespace Jf
open PySem PySem.Spec PyProof.Rows L2 Evl
/-! ### defs that show data: no list or tuple is being shown when they are called -/
structure FnG (P : Program) (w : World) (K : PySem.W.Frag) (mg : Str → Option Value) (base : Heap) (k : Nat) (f : Addr) (fd : FuncData) (ps : List Str) (sp : Sp) : Prop where
  size : ∀ vs H Q E, sp vs H Q E → vs.length = ps.length
  go : ∀ (A : Around) (outer : List Env) (s : Shared) (H : Hp) (args : Args) (us : List Value) (vs : List V) (Q : VK), A.guards = some [] → Room k A →
    Env0 P w K mg base A outer s H → BindsTo s fd args (ps.zip us) → Vals vs us → sp vs H Q E0 → codeAny (model P w) A (.call (.ref f) args) (CR CX0 outer P w H s Q E0) s
section
variable {X : Cx} {k : Nat} {f : Addr} {fd : FuncData} {ps : List Str} {sp : Sp} {x : Str} {p pos : Pos} {e : Expr} {es : List Expr} {t : TA}
/-- f(e, ..) of such a def -/
theorem pe_callG (F : FnG X.prog X.w X.K X.mg X.base k f fd ps sp) (gd : X.A.guards = some []) (hr : Room k X.A) (hg : Gl X x) (hm : X.mg x = some (.ref f)) (hk : PySem.W.keepIn X.K (.ref f) = true) (hb : Binds X.K fd ps [])
    (ha : PA X (e :: es) t) (hdb : (x == ("__debug__" : Str)) = false := by decide)
    (he : starEach (e :: es) X.env = (false, eval e X.env) :: starEach es X.env := by rfl)
    (hpl : (backTo pos (starEach es X.env)).any (·.1) = false := by rfl) : PE X (.Call (.Name x p) (e :: es) [] pos) (tCall sp [] E0 t) := by
  constructor
  intro pins s σ H Q I h
  apply wpAny_Call_Name_kw
  apply ld_glob I hg hm _ hdb
  apply PySem.W.callWith_K (h₀ := X.base) I.ok.mod.kin hk _ he hpl
  apply thn (ha.run pos pins s σ H _ I h)
  rintro us s1 ⟨vs, H1, I1, r, q⟩
  refine ⟨I1.kIn, ?_⟩
  have q' : sp vs H1 Q E0 := by
    have z := q
    rw [List.append_nil] at z
    exact z
  have hz : us.length = ps.length := r.length ▸ F.size _ _ _ _ q'
  have bt := hb s1 us I1.kIn (by simpa using hz)
  rw [List.append_nil] at bt
  apply wpAny_call
  apply codeAny_mono (F.go X.A X.stack s1 H1 ⟨us, []⟩ us vs Q gd hr I1.env0 bt r q')
  intro res s' hq
  match res, hq with
  | .ok (.ret u), hq => exact I1.after hq
  | .error _, hq => exact False.elim hq
end
section
variable {P : Program} {w : World} {K : PySem.W.Frag} {mg : Str → Option Value} {base : Heap}
/-- such a def, by its body -/
theorem okG {x qual : Str} {st : Stmt} {f : Addr} {fd : FuncData} {N ps : List Str} {k : Nat} {sp : Sp} (F : Fun K x qual st f fd) (S : FnScope N ps (defScope st)) (len : ∀ vs H Q E, sp vs H Q E → vs.length = ps.length)
    (body : ∀ (cdv : Value) (A : Around) (outer : List Env) (s : Shared) (H : Hp) (vs : List V) (Q : VK), A.guards = some [] → Room k (A.deeper (envOfC qual (defScope st) s.heap.objs.size f cdv)) → sp vs H Q E0 →
      ∃ t, PSs (cxOf CX0 P w K mg base N qual (defScope st) f cdv A outer s H E0).nox (defBody st) t ∧ t { nx := fun _ H' => Q .non H', rt := Q } (start N vs) H) :
    FnG P w K mg base (k + 1) f fd ps sp := by
  obtain ⟨oc, od, kV, doc, pm, an, cdv, ct, osl, rfl, lk, hcd⟩ := F.ex
  constructor
  · exact len
  intro A outer s H args us vs Q gd hr e0 hb r hsp
  have here : ∀ b o, base.get? b = some o → s.heap.get? b = some o := fun b o e => (e0.bs b o e).1
  have KX : K.In s.heap := e0.mod.kin.keeps here
  have par : ∀ y ∈ ps.zip us, (defScope st).names.lookup y.1 = some .local ∨ ((defScope st).names.lookup y.1 = some .cell ∧ ((cellsFrom (s.heap.objs.size + 1) (defScope st).names []).lookup y.1).isSome = true) := by
    rintro ⟨n, v⟩ hy
    have q := S.par n (List.of_mem_zip hy).1
    exact q.imp id fun z => ⟨z, PySem.W.cellsFrom_some _ _ _ (.inl z)⟩
  apply codeAny_call_function hr.depth (KX _ _ lk) rfl S.co S.gen rfl (PySem.W.codeRec_of KX hcd)
  apply hb
  apply wpAny_newFunctionEnv_cells S.kind par
  intro env he s1 ic
  subst he
  refine ⟨(e0.mod.nolimit.keeps here).keeps ic.toInCall.keep, codeAny_func ?_⟩
  obtain ⟨t, ht, hq⟩ := body cdv A outer s H vs Q gd (hr.deeper _) hsp
  have I0 := inv_start (CX := CX0) (E := E0) S hr.hd e0 (len _ _ _ _ hsp) r ic
  apply wpAny_mono (ht.nox.run [] s1 (start N vs) H _ I0 hq)
  · intro fl s' hs
    match fl, hs with
    | .ret u, ⟨v, σ', H', J, rv, q⟩ => exact ⟨v, H', J.os, J.bare, J.base, J.hok, rv, q⟩
    | .next, ⟨σ', H', J, q⟩ => exact ⟨V.non, H', J.os, J.bare, J.base, J.hok, rfl, q⟩
    | .brk, ⟨_, _, _, q⟩ => exact False.elim q
    | .cont, ⟨_, _, _, q⟩ => exact False.elim q
  · intro e s' hs
    exact hs
end
/-! ### isinstance of the error that a suite holds, its own dict read -/
/-- what its class must say -/
structure ErrC (K : PySem.W.Frag) (C : Addr) : Prop where
  cl : (PySem.W.clsIn K C).isSome = true
  ga : PySem.W.findIn K (.ref C) "__getattribute__" = some (some (.builtin "BaseException.__getattribute__"))
  gg : PySem.W.findIn K (.ref C) "__getattr__" = some none
  ex : PySem.W.subIn K (.ref C) (.type "BaseException") = some true
  hd : PySem.W.hasDictIn K C = true
  kc : PySem.W.findIn K (.ref C) "__class__" = some (some (.builtin "object.__class__"))
  sp : PySem.W.specialIn K (.builtin "object.__class__") "__get__" = some (some (.builtin "getset_descriptor.__get__"))
  tk : PySem.W.takesIn K (.builtin "object.__class__") = some true
  mo : PySem.W.mroIn K C (.type "object") = some true
def rIsD (K : PySem.W.Frag) (a : Addr) (cls : Value) (d : Option Addr) : List V → Hp → VK → Prop := fun xs H Q => ∃ (C B dd : Addr) (fs : List (Str × V)) (b : Bool), xs = [.ref a, .ref B] ∧ cls = .ref C ∧ ErrC K C ∧ d = some dd ∧ H dd = some (.xd fs) ∧ PySem.W.kitOne K (.ref C) (.ref B) = some b ∧ Q (.bl b) H
theorem call_isD {X : Cx} {a : Addr} {oe : Obj} {cls : Value} {d : Option Addr} {pn : List (Addr × Obj)} (hz : Zc cls d oe) (hf : ∃ vs, oe.data = .fields vs) : CallR (X.suite a ((a, oe) :: pn)) (.builtin "isinstance") (rIsD X.K a cls d) := by
  intro pins s σ H xs us Q I r h
  obtain ⟨C, B, dd, fs, b, rfl, rfl, T, rfl, ed, hk, q⟩ := h
  cases r with
  | cons rx rr =>
    cases rr with
    | cons rt rr =>
      cases rr
      cases rx
      cases rt
      have hget := (I.pin (a, oe) (List.mem_append_left _ List.mem_cons_self)).1
      obtain ⟨vs, hv⟩ := hf
      have hx : ObjOk X.prog X.w H s.heap dd (.xd fs) := I.hok dd _ ed
      obtain ⟨mA, hns, _⟩ := hx
      obtain ⟨od, ho, _⟩ := lookIn_ns hns
      have J : PySem.W.InstAt s.heap a oe C (some od) := by
        refine ⟨hget, hz.1, ?_, ?_⟩
        · unfold PySem.W.notCls
          rw [hv] <;> rfl
        · rw [hz.2]
          exact ho
      refine PySem.W.kia_one (PySem.W.kitx_exc T.cl T.ga T.gg T.ex T.kc T.sp T.tk T.mo) I.kIn J hk (fun z => nomatch z) ?_
      intro tk
      exact ⟨.bl b, H, I.kept (t' := tk) fun _ _ z => z, rfl, q⟩
/-! ### repr -/
/-- a list that is written out: it isn't at sys.modules -/
def tLstN (t : TA) : TE := fun σ H Q => t σ H fun xs H1 => xs.length ≤ sizeLine ∧ ∀ p, H1 p = none → p ≠ sysModules → Q (.ref p) (upd H1 p (.lst xs))
theorem pe_lstN {X : Cx} {es : List Expr} {t : TA} {pos : Pos} (h : PA X es t) : PE X (.List es pos) (tLstN t) := by
  constructor
  intro pins s σ H Q I want
  apply wpAny_List_spliced
  apply thn (h.run pos pins s σ H _ I want)
  rintro us s1 ⟨xs, H1, I1, vals, len, k⟩
  have free : H1 s1.heap.objs.size = none := I1.hok.fresh (Nat.le_refl _)
  refine ⟨vals.length ▸ len, .ref _, upd H1 _ (.lst xs), I1.laid (t' := s1.toks) (fun _ _ e => Heap.get?_push_of_some _ e) (Nat.le_refl _) ⟨len, us, 0, vals, Heap.get?_push_size _ rfl⟩, rfl, ?_⟩
  exact k _ free (Nat.ne_of_gt I1.big)
mutual
/-- data at a value: lists that are tracked (and are not what stands at p), tuples, the empty dict -/
inductive Dq (K : PySem.W.Frag) (p : Addr) (H : Hp) : V → PyData → Prop
  | non : Dq K p H .non .none
  | bl (b : Bool) : Dq K p H (.bl b) (.bool b)
  | int (i : Int) : Dq K p H (.int i) (.int i)
  | str (x : Str) : Dq K p H (.str x) (.str x)
  | lst {a : Addr} {xs : List V} {ds : List PyData} : a ≠ p → a ≠ sysModules → H a = some (.lst xs) → DqAll K p H xs ds → Dq K p H (.ref a) (.list ds)
  | tup {a : Addr} {xs : List V} {ds : List PyData} : SqT K H a xs → DqAll K p H xs ds → Dq K p H (.ref a) (.tuple ds)
  | emp {a : Addr} : H a = some (.dK []) → Dq K p H (.ref a) (.dict [])
inductive DqAll (K : PySem.W.Frag) (p : Addr) (H : Hp) : List V → List PyData → Prop
  | nil : DqAll K p H [] []
  | cons {v : V} {vs : List V} {d : PyData} {ds : List PyData} : Dq K p H v d → DqAll K p H vs ds → DqAll K p H (v :: vs) (d :: ds)
end
mutual
theorem Dq.ex {K : PySem.W.Frag} {p : Addr} {H H' : Hp} (e : Ex H H') : ∀ (d : PyData) (v : V), Dq K p H v d → Dq K p H' v d
  | _, _, .non => .non
  | _, _, .bl b => .bl b
  | _, _, .int i => .int i
  | _, _, .str x => .str x
  | _, _, .lst n m h hs => .lst n m (e _ _ h) (DqAll.ex e _ _ hs)
  | _, _, .tup h hs => .tup (ex_t e h) (DqAll.ex e _ _ hs)
  | _, _, .emp h => .emp (e _ _ h)
theorem DqAll.ex {K : PySem.W.Frag} {p : Addr} {H H' : Hp} (e : Ex H H') : ∀ (ds : List PyData) (vs : List V), DqAll K p H vs ds → DqAll K p H' vs ds
  | _, _, .nil => .nil
  | _, _, .cons h hs => .cons (Dq.ex e _ _ h) (DqAll.ex e _ _ hs)
end
section
variable {X : Cx} {pins : List (Addr × Obj)} {σ : L2.St} {H : Hp} {s : Shared}
mutual
theorem Dq.reads {p : Addr} (I : Inv X pins σ H s) : ∀ (d : PyData) (v : V) (u : Value), Dq X.K p H v d → RelV v u → ∃ as, Reads s.heap u d as ∧ sysModules ∉ as
  | _, _, u, .non, r => by
    cases (show u = Value.none from r)
    exact ⟨_, .none, by simp⟩
  | _, _, u, .bl b, r => by
    cases (show u = Value.bool b from r)
    exact ⟨_, .bool b, by simp⟩
  | _, _, u, .int i, r => by
    obtain ⟨t, q⟩ := (show ∃ t, u = Value.int i t from r)
    cases q
    exact ⟨_, .int i t, by simp⟩
  | _, _, u, .str x, r => by
    obtain ⟨t, q⟩ := (show ∃ t, u = Value.str x t from r)
    cases q
    exact ⟨_, .str x t, by simp⟩
  | _, _, u, .lst (a := a) _ m h hs, r => by
    cases (show u = Value.ref a from r)
    have hx : ObjOk X.prog X.w H s.heap a (.lst _) := I.hok a _ h
    obtain ⟨_, its, n, rv, e⟩ := hx
    obtain ⟨as, q, nm⟩ := DqAll.reads I _ _ _ hs rv
    exact ⟨_, .list e rfl rfl (by simpa using q), by
      simp only [List.mem_cons, not_or]
      exact ⟨m.symm, nm⟩⟩
  | _, _, u, .tup (a := a) h hs, r => by
    cases (show u = Value.ref a from r)
    obtain ⟨its, rv, ⟨o, e, c, n, dd⟩, _⟩ := I.tuple h
    obtain ⟨as, q, nm⟩ := DqAll.reads I _ _ _ hs rv
    exact ⟨_, .tuple e c dd (by simpa using q), nm⟩
  | _, _, u, .emp (a := a) h, r => by
    cases (show u = Value.ref a from r)
    obtain ⟨_, nsm, vs, kv, o, es, ep, e, x, dd, _, pr, _⟩ := dk_of I.hok h
    cases kv
    have e0 : es.toList = [] := by
      cases hh : es.toList with
      | nil => rfl
      | cons y ys =>
        rw [hh] at pr
        cases pr
    exact ⟨_, .dict (as := []) (bs := []) e x.1 dd (by rw [e0]; exact .nil) (by rw [e0]; exact .nil), by
      have := (beq_eq_false_iff_ne.mp nsm).symm
      simpa using this⟩
theorem DqAll.reads {p : Addr} (I : Inv X pins σ H s) : ∀ (ds : List PyData) (vs : List V) (us : List Value), DqAll X.K p H vs ds → Vals vs us → ∃ as, ReadsAll s.heap us ds as ∧ sysModules ∉ as
  | _, _, us, .nil, r => by
    cases r
    exact ⟨_, .nil, by simp⟩
  | _, _, us, .cons h hs, r => by
    cases r with
    | cons r1 r2 =>
      obtain ⟨as, q1, n1⟩ := Dq.reads I _ _ _ h r1
      obtain ⟨bs, q2, n2⟩ := DqAll.reads I _ _ _ hs r2
      exact ⟨_, .cons q1 q2, by
        simp only [List.mem_append, not_or]
        exact ⟨n1, n2⟩⟩
end
end
mutual
theorem Dp.nd {K : PySem.W.Frag} {H : Hp} : ∀ (d : PyData) (v : V), Dp K H v d → d.hasDict = false
  | _, _, .non => rfl
  | _, _, .bl _ => rfl
  | _, _, .int _ => rfl
  | _, _, .str _ => rfl
  | _, _, .lst _ hs => by simp only [PyData.hasDict]; exact DpAll.nd _ _ hs
  | _, _, .tup _ hs => by simp only [PyData.hasDict]; exact DpAll.nd _ _ hs
theorem DpAll.nd {K : PySem.W.Frag} {H : Hp} : ∀ (ds : List PyData) (vs : List V), DpAll K H vs ds → PyData.hasDictAll ds = false
  | _, _, .nil => rfl
  | _, _, .cons h hs => by simp only [PyData.hasDictAll, Dp.nd _ _ h, DpAll.nd _ _ hs, Bool.or_false]
end
def rRepr (K : PySem.W.Frag) : List V → Hp → VK → Prop := fun xs H Q => ∃ (x : V) (d : PyData) (p : Addr), xs = [x] ∧ (Dq K p H x d ∨ Dp K H x d) ∧ d.showable = true ∧ d.depth ≤ 60 ∧ d.shown.length ≤ sizeLine ∧ Q (.str d.shown) H
section
variable {X : Cx}
theorem call_repr (gd : X.A.guards = some []) (hu : X.A.units + 64 < cLine) : CallR X (.builtin "repr") (rRepr X.K) := by
  intro pins s σ H xs us Q I r h
  obtain ⟨x, d, p, rfl, hd, hs, hdep, hz, q⟩ := h
  cases r with
  | cons r1 r2 =>
    cases r2
    rename_i u
    obtain ⟨as, hr, nm⟩ : ∃ as, Reads s.heap u d as ∧ (d.hasDict = true → sysModules ∉ as) := by
      rcases hd with hd | hd
      · obtain ⟨as, hr, nm⟩ := Dq.reads I d x u hd r1
        exact ⟨as, hr, fun _ => nm⟩
      · obtain ⟨as, hr⟩ := Dp.reads I d x u hd r1
        exact ⟨as, hr, fun z => by rw [Dp.nd d x hd] at z; cases z⟩
    have fin : ∀ h' u' tk, (∀ b o, s.heap.get? b = some o → h'.get? b = some o) → EP X pins σ Q (.str d.shown u') { s with heap := h', toks := tk } := fun h' u' tk hk => ⟨.str d.shown, H, I.kept hk, ⟨_, rfl⟩, q⟩
    have f0 := fin s.heap s.toks (s.toks + 1) (fun _ _ z => z)
    cases hr with
    | none => exact PySem.P.repr_of_none (by simpa [PyData.shown] using f0)
    | bool b => exact PySem.P.repr_of_bool (by simpa [PyData.shown] using f0)
    | int i t => exact PySem.P.repr_of_int (by simpa [PyData.showable] using hs) (by simpa [PyData.shown] using f0)
    | str y t => exact PySem.P.repr_of_str (by simpa [PyData.shown] using f0) (by simpa [PyData.shown] using hz)
    | list h1 h2 h3 h4 => exact repr_of_reads' (.list h1 h2 h3 h4) hs nm gd (by omega) (fun _ _ z => z) (fun h' u' tk hk => fin h' u' tk hk) hz
    | tuple h1 h2 h3 h4 => exact repr_of_reads' (.tuple h1 h2 h3 h4) hs nm gd (by omega) (fun _ _ z => z) (fun h' u' tk hk => fin h' u' tk hk) hz
    | dict h1 h2 h3 h4 h5 => exact repr_of_reads' (.dict h1 h2 h3 h4 h5) hs nm gd (by omega) (fun _ _ z => z) (fun h' u' tk hk => fin h' u' tk hk) hz
end
end Jf
set_option Elab.async false
set_option linter.all false
set_option maxRecDepth 100000
set_option maxHeartbeats 4000000
namespace Jf
open PySem PySem.Spec PyProof.Rows L2 Evl
/-! ### how long shown data is -/
def lens : List Str → Nat
  | [] => 0
  | t :: ts => t.length + 2 + lens ts
theorem textFrom_le : ∀ (ts : List Str) (k : Nat) (acc : Str), (textFrom k acc ts).length ≤ acc.length + lens ts
  | [], _, acc => by simp [textFrom, lens]
  | t :: ts, k, acc => by
    have h := textFrom_le ts (k + 1) (acc ++ (if k > 0 then ", " else "" : String) ++ t)
    have e : ((if k > 0 then ", " else "" : String) : Str).length ≤ 2 := by
      by_cases z : k > 0
      · rw [if_pos z]; decide
      · rw [if_neg z]; decide
    simp only [textFrom, lens, Str.length_append] at h ⊢
    omega
theorem join_le : ∀ ts : List Str, (Str.join ", " ts).length ≤ lens ts
  | [] => by simp only [Str.join, lens]; decide
  | [x] => by simp only [Str.join, lens]; omega
  | x :: y :: r => by
    have h := join_le (y :: r)
    have e : ((", " : String) : Str).length = 2 := by decide
    simp only [Str.join, lens, Str.length_append] at h ⊢
    omega
mutual
def cost : PyData → Nat
  | .none => 4
  | .bool _ => 5
  | .int i => i.natAbs.log2 + 3
  | .str x => (reprText x).length
  | .list xs => costAll xs + 4
  | .tuple xs => costAll xs + 4
  | .dict [] => 2
  | .dict (_ :: _) => 100000000
def costAll : List PyData → Nat
  | [] => 0
  | x :: xs => cost x + 2 + costAll xs
end
mutual
theorem shown_le : ∀ d : PyData, cost d < 100000000 → d.shown.length ≤ cost d
  | .none, _ => by simp only [PyData.shown, cost]; decide
  | .bool b, _ => by cases b <;> (simp only [PyData.shown, cost]; decide)
  | .int i, _ => by
    simp only [PyData.shown, cost]
    have h := int_text_length_le (a := i) (k := i.natAbs.log2 + 1) (by omega) (by omega)
    show (Str.ofString (toString i)).length ≤ _
    rw [PySem.ofString_length]
    omega
  | .str x, _ => by simp only [PyData.shown, cost]; omega
  | .list xs, h => by
    simp only [cost] at h
    have := shownAll_le xs (by omega)
    have z := textFrom_le (PyData.shownAll xs) 0 (Str.ofString "[")
    have e : (Str.ofString "[").length = 1 := by decide
    have e2 : (Str.ofString "]").length = 1 := by decide
    simp only [PyData.shown, cost, listText, Str.length_append] at z ⊢
    omega
  | .tuple xs, h => by
    simp only [cost] at h
    have := shownAll_le xs (by omega)
    have z := join_le (PyData.shownAll xs)
    have e : (Str.ofString "(").length = 1 := by decide
    have e2 : ((if (PyData.shownAll xs).length == 1 then ",)" else ")" : String) : Str).length ≤ 2 := by
      by_cases q : ((PyData.shownAll xs).length == 1) = true
      · rw [if_pos q]; decide
      · rw [if_neg q]; decide
    simp only [PyData.shown, cost, tupleText, Str.length_append] at z ⊢
    omega
  | .dict [], _ => by simp only [PyData.shown, PyData.shownKv, cost]; decide
  | .dict (_ :: _), h => by simp only [cost] at h; omega
theorem shownAll_le : ∀ ds : List PyData, costAll ds < 100000000 → lens (PyData.shownAll ds) ≤ costAll ds
  | [], _ => by simp [PyData.shownAll, lens, costAll]
  | d :: ds, h => by
    simp only [costAll] at h
    have h1 := shown_le d (by omega)
    have h2 := shownAll_le ds (by omega)
    simp only [PyData.shownAll, lens, costAll]
    omega
end
/-- data that is shown without harm: its text, its depth -/
structure Nc (c e : Nat) (d : PyData) : Prop where
  sh : d.showable = true
  dp : d.depth ≤ e
  co : cost d ≤ c
theorem Nc.mono {c c' e e' : Nat} {d : PyData} (h : Nc c e d) (h1 : c ≤ c') (h2 : e ≤ e') : Nc c' e' d := ⟨h.sh, Nat.le_trans h.dp h2, Nat.le_trans h.co h1⟩
theorem Nc.len {c e : Nat} {d : PyData} (h : Nc c e d) (hc : c ≤ 1000000) : d.shown.length ≤ c := Nat.le_trans (shown_le d (by have := h.co; omega)) h.co
theorem nc_none : Nc 4 0 .none := ⟨rfl, Nat.le_refl _, Nat.le_refl _⟩
theorem nc_bool (b : Bool) : Nc 5 0 (.bool b) := ⟨rfl, Nat.le_refl _, Nat.le_refl _⟩
theorem nc_int {n : Int} {b : Nat} (h : n.natAbs < 2 ^ b) (h0 : 0 < b) (h1 : b ≤ 1900) : Nc (b + 2) 0 (.int n) := by
  have := PySem.Flt.log2_lt_of h0 h
  refine ⟨?_, Nat.le_refl _, ?_⟩
  · simp only [PyData.showable, decide_eq_true_eq]; omega
  · simp only [cost]; omega
theorem nc_str {x : Str} {c : Nat} (h : (reprText x).length ≤ c) : Nc c 0 (.str x) := ⟨rfl, Nat.le_refl _, h⟩
/-- several -/
structure NcA (c e : Nat) (ds : List PyData) : Prop where
  sh : PyData.showableAll ds = true
  dp : PyData.depthAll ds ≤ e
  co : costAll ds ≤ c
theorem nca_nil {e : Nat} : NcA 0 e [] := ⟨rfl, Nat.zero_le _, Nat.le_refl _⟩
theorem nca_cons {c c' e : Nat} {d : PyData} {ds : List PyData} (h : Nc c e d) (hs : NcA c' e ds) : NcA (c + 2 + c') e (d :: ds) := by
  refine ⟨?_, ?_, ?_⟩
  · simp only [PyData.showableAll, h.sh, hs.sh, Bool.and_self]
  · simp only [PyData.depthAll]; exact Nat.max_le.mpr ⟨h.dp, hs.dp⟩
  · simp only [costAll]; have := h.co; have := hs.co; omega
theorem nc_tup {c e : Nat} {ds : List PyData} (h : NcA c e ds) : Nc (c + 4) (e + 1) (.tuple ds) := by
  refine ⟨?_, ?_, ?_⟩
  · simp only [PyData.showable, h.sh]
  · simp only [PyData.depth]; have := h.dp; omega
  · simp only [cost]; have := h.co; omega
theorem nc_lst {c e : Nat} {ds : List PyData} (h : NcA c e ds) : Nc (c + 4) (e + 1) (.list ds) := by
  refine ⟨?_, ?_, ?_⟩
  · simp only [PyData.showable, h.sh]
  · simp only [PyData.depth]; have := h.dp; omega
  · simp only [cost]; have := h.co; omega
theorem nc_emp : Nc 2 1 (.dict []) := ⟨rfl, Nat.le_refl _, Nat.le_refl _⟩
theorem nc_pair {n m : Int} {b : Nat} (hn : n.natAbs < 2 ^ b) (hm : m.natAbs < 2 ^ b) (h0 : 0 < b) (h1 : b ≤ 1900) : Nc (2 * b + 12) 1 (.tuple [.int n, .int m]) :=
  (nc_tup (nca_cons (nc_int hn h0 h1) (nca_cons (nc_int hm h0 h1) nca_nil))).mono (by omega) (by omega)
/-! ### which data is what -/
def tyName : PyData → String
  | .none => "NoneType"
  | .bool _ => "bool"
  | .int _ => "int"
  | .str _ => "str"
  | .list _ => "list"
  | .tuple _ => "tuple"
  | .dict _ => "dict"
def isTup : PyData → Bool
  | .tuple _ => true
  | _ => false
def isInt : PyData → Bool
  | .int _ => true
  | .bool _ => true
  | _ => false
def isBo : PyData → Bool
  | .bool _ => true
  | _ => false
def isWh : PyData → Bool
  | .int _ => true
  | _ => false
theorem wh_eq (d : PyData) : (isInt d && !isBo d) = isWh d := by cases d <;> rfl
theorem kit_tup (d : PyData) : kitB (tyName d) "tuple" = some (isTup d) := by cases d <;> (simp only [tyName, isTup]; decide +kernel)
theorem kit_int (d : PyData) : kitB (tyName d) "int" = some (isInt d) := by cases d <;> (simp only [tyName, isInt]; decide +kernel)
theorem kit_bool (d : PyData) : kitB (tyName d) "bool" = some (isBo d) := by cases d <;> (simp only [tyName, isBo]; decide +kernel)
section
variable {K : PySem.W.Frag} {p : Addr} {H H' : Hp} {v : V} {d : PyData}
theorem Dq.ty (h : Dq K p H v d) : TyX K H v (.type (tyName d)) := by
  cases h with
  | non => exact .base .non
  | bl b => exact .base (.bl b)
  | int i => exact .base (.int i)
  | str x => exact .base (.str x)
  | lst _ _ h _ => exact .base (.lst h)
  | tup h _ =>
    rcases h with (h | ⟨o, h⟩) | ⟨o, _, _, h, c, _⟩
    · exact .base (.tup h)
    · exact .fTuple h
    · exact .kTuple h c
  | emp h => exact .base (.dK h)
theorem DqAll.len : ∀ {vs : List V} {ds : List PyData}, DqAll K p H vs ds → vs.length = ds.length
  | _, _, .nil => rfl
  | _, _, .cons _ h => by rw [List.length_cons, List.length_cons, h.len]
theorem DqAll.mem : ∀ {vs : List V} {ds : List PyData}, DqAll K p H vs ds → ∀ x ∈ vs, ∃ d ∈ ds, Dq K p H x d
  | _, _, .nil, x, hx => nomatch hx
  | _, _, .cons (d := d) h hs, x, hx => by
    rcases List.mem_cons.mp hx with rfl | hx
    · exact ⟨d, List.mem_cons_self, h⟩
    · obtain ⟨e, he, q⟩ := hs.mem x hx
      exact ⟨e, List.mem_cons_of_mem _ he, q⟩
theorem DqAll.append : ∀ {vs ws : List V} {ds es : List PyData}, DqAll K p H vs ds → DqAll K p H ws es → DqAll K p H (vs ++ ws) (ds ++ es)
  | _, _, _, _, .nil, h => h
  | _, _, _, _, .cons a b, h => .cons a (b.append h)
/-- a fraction's data -/
def frd (q : Rat) : PyData := .tuple [.int q.num, .int (q.den : Int)]
theorem Fr.dq {b : Nat} {q : Rat} (h : Fr K b q v H) : Dq K p H v (frd q) := by
  obtain ⟨a, rfl, h, _⟩ := h
  exact .tup h (.cons (.int _) (.cons (.int _) .nil))
theorem Fr.nc {b : Nat} {q : Rat} (h : Fr K b q v H) (h0 : 0 < b) (h1 : b ≤ 1900) : Nc (2 * b + 12) 1 (frd q) := nc_pair h.bd.1 (bd_den h.bd) h0 h1
/-- whether it is a fraction's -/
def frB : PyData → Bool
  | .tuple [.int n, .int m] => decide (0 < m) && decide (Nat.gcd n.natAbs m.natAbs = 1)
  | _ => false
def frQ : PyData → Rat
  | .tuple [.int n, .int m] => Rat.divInt n m
  | _ => 0
theorem divInt_low {n m : Int} (hm : 0 < m) (hg : Nat.gcd n.natAbs m.natAbs = 1) : (Rat.divInt n m).num = n ∧ ((Rat.divInt n m).den : Int) = m := by
  obtain ⟨h1, h2⟩ := low_eq n m (by omega) 1 (by rw [if_neg (by omega)])
  rw [hg] at h1 h2
  constructor
  · rw [← h1]; simp
  · rw [← h2]; simp
theorem frB_frd (q : Rat) : frB (frd q) = true := by
  have := den_pos q
  have h := red q
  simp only [frd, frB, h, decide_true, Bool.and_true, decide_eq_true_eq]
  exact this
theorem frQ_frd (q : Rat) : frQ (frd q) = q := by
  simp only [frd, frQ]
  exact Rat.num_divInt_den q
theorem frB_iff (h : frB d = true) : d = frd (frQ d) := by
  unfold frB at h
  split at h
  · rename_i n m
    rw [Bool.and_eq_true] at h
    obtain ⟨h1, h2⟩ := divInt_low (of_decide_eq_true h.1) (of_decide_eq_true h.2)
    simp only [frd, frQ, h1, h2]
  · cases h
theorem Dq.fr {b : Nat} (h : Dq K p H v d) (hb : frB d = true) (bd : Bd b (frQ d)) : Fr K b (frQ d) v H := by
  have e := frB_iff hb
  generalize frQ d = q at e bd
  subst e
  cases h with
  | tup h hs =>
    cases hs with
    | cons h1 h2 =>
      cases h2 with
      | cons h3 h4 =>
        cases h4
        cases h1
        cases h3
        exact ⟨_, rfl, h, bd⟩
end
end Jf
set_option Elab.async false
set_option linter.all false
set_option maxRecDepth 100000
set_option maxHeartbeats 4000000
namespace Jf
open PySem PySem.Spec PyProof.Rows L2 Evl
/-! ### the end of a law whose def shows data -/
/-- the script, known to its object; else nothing -/
def track (a : Addr) (vs : List Value) (ns : List Int) : Hp := fun b => if b = a then some (.frz { cls := .type "list", data := .seq vs.toArray } (.lst (ns.map V.int))) else none
theorem track_at {a : Addr} {vs : List Value} {ns : List Int} : track a vs ns a = some (.frz { cls := .type "list", data := .seq vs.toArray } (.lst (ns.map V.int))) := if_pos rfl
theorem track_ne {a b : Addr} {vs : List Value} {ns : List Int} (h : b ≠ a) : track a vs ns b = none := if_neg h
/-- what the law's promise is asked at -/
structure Asked (K : PySem.W.Frag) (h : Heap) (a : Addr) (vs : List Value) (ns : List Int) (H : Hp) : Prop where
  known : SqL K H a (ns.map V.int)
  only : ∀ b u, H b = some u → b = a ∧ ∃ o xs, u = .frz o (.lst xs)
  free : ∀ b o, K.lookup b = some o → H b = none
theorem seq_not_dict {h : Heap} {a : Addr} {vs : Array Value} {m : Str → Option Value} (ha : h.get? a = some { cls := .type "list", data := .seq vs }) : ¬ h.Ns a m := by
  rintro ⟨o, es, ep, e, d, _⟩
  rw [ha] at e
  cases e
  cases d
section
variable {P : Program} {w : World} {K : PySem.W.Frag} {mg mb : Str → Option Value} {k : Nat} {fa a : Addr} {fd : FuncData} {x : Str} {sp : Sp} {s₁ : Shared} {vs : List Value} {ns : List Int}
theorem go_law {H : Hp} (S : Asked K s₁.heap a vs ns H) (hok : HOk P w H s₁.heap) (KX : K.In s₁.heap) (hns : s₁.heap.Ns mainGlobals mg) (hb : s₁.heap.Ns builtinsNs mb) (hbb : ∀ x : Str, x ≠ "__name__" → mb x = bootBuiltins x) (hlim : s₁.heap.NoLimit) (hg : s₁.gens = #[])
    (ha : s₁.heap.get? a = some { cls := .type "list", data := .seq vs.toArray }) (hr : Room k callerA)
    (F : ∀ base : Heap, K.In base → base.Ns mainGlobals mg → FnG P w K mg base k fa fd [x] sp) (hbind : ∀ (s : Shared) (u : Value), BindsTo s fd ⟨[u], []⟩ [(x, u)])
    (hsp : sp [.ref a] H (fun v _ => v = .bl true) E0) :
    codeAny (model P w) callerA (.call (.ref fa) ⟨[.ref a], []⟩) (fun r s' => r = .ok (.ret (.bool true)) ∧ PySem.OldK s₁.heap s'.heap ∧ s'.os = s₁.os ∧ AllBare s'.gens) s₁ := by
  have ns_of : ∀ {b : Addr} {m : Str → Option Value}, s₁.heap.Ns b m → (hidT s₁.heap H).Ns b m := by
    intro b m hn
    have hn' := hn
    obtain ⟨o, es, ep, e, r⟩ := hn
    refine ⟨o, es, ep, hidT_get e ?_, r⟩
    cases q : H b with
    | none => rfl
    | some u =>
      obtain ⟨rfl, _⟩ := S.only b u q
      exact absurd hn' (seq_not_dict ha)
  have hKb : K.In (hidT s₁.heap H) := fun b o e => hidT_get (KX b o e) (S.free b o e)
  obtain ⟨mc, l1, l2⟩ := hlim
  have e0 : Env0 P w K mg (hidT s₁.heap H) callerA [] s₁ H := by
    constructor
    · rfl
    · exact ⟨hKb, ns_of hns, ⟨mb, ns_of hb, hbb⟩, ⟨mc, ns_of l1, l2⟩⟩
    · exact fun b o e => of_hidT e
    · exact Nat.le_of_eq (hidT_size _ _)
    · trivial
    · intro b hb
      exact absurd (show b ∈ ([] : List Addr) from hb) (by simp)
    · exact hok
    · exact .of_eq hg
  apply codeAny_mono ((F _ hKb (ns_of hns)).go callerA [] s₁ H ⟨[.ref a], []⟩ [.ref a] [.ref a] _ rfl hr e0 (hbind s₁ (.ref a)) (.cons rfl .nil) hsp)
  intro r s' h
  match r, h with
  | .error _, h => exact False.elim h
  | .ok (.ret u), ⟨v, H', os, bare, un, hok', r', q⟩ =>
    subst q
    obtain rfl : u = Value.bool true := r'
    refine ⟨rfl, PySem.OldK.of_keep ?_, os, bare⟩
    intro b o e
    cases q : H b with
    | none => exact un.keep b o e q (by intro z; exact absurd (show b ∈ ([] : List Addr) from z) (by simp)) (by simp)
    | some u =>
      obtain ⟨rfl, ob, xs, rfl⟩ := S.only b u q
      have q2 := un.frzs b ob _ q
      have e1 := (hok b _ q).1
      have e2 := (hok' b _ q2).1
      rw [e] at e1
      cases e1
      exact e2
theorem law_callG (KX : K.In s₁.heap) (hns : s₁.heap.Ns mainGlobals mg) (hb : s₁.heap.Ns builtinsNs mb) (hbb : ∀ x : Str, x ≠ "__name__" → mb x = bootBuiltins x) (hlim : s₁.heap.NoLimit) (hg : s₁.gens = #[])
    (ha : s₁.heap.get? a = some { cls := .type "list", data := .seq vs.toArray }) (hi : IntsAre vs ns) (hl : ns.length ≤ sizeLine) (hr : Room k callerA)
    (F : ∀ base : Heap, K.In base → base.Ns mainGlobals mg → FnG P w K mg base k fa fd [x] sp) (hbind : ∀ (s : Shared) (u : Value), BindsTo s fd ⟨[u], []⟩ [(x, u)])
    (hsp : ∀ H : Hp, SqL K H a (ns.map V.int) → sp [.ref a] H (fun v _ => v = .bl true) E0) :
    codeAny (model P w) callerA (.call (.ref fa) ⟨[.ref a], []⟩) (fun r s' => r = .ok (.ret (.bool true)) ∧ PySem.OldK s₁.heap s'.heap ∧ s'.os = s₁.os ∧ AllBare s'.gens) s₁ := by
  have rv := vals_ints hi
  cases hk : K.lookup a with
  | some o =>
    have e := KX a o hk
    rw [ha] at e
    cases e
    have known : SqL K (fun _ => none) a (ns.map V.int) := .inr ⟨_, vs.toArray, _, hk, rfl, rfl, rfl, by rw [List.size_toArray, hi.length]; exact hl, by simpa using rv⟩
    exact go_law (H := fun _ => none) ⟨known, (fun _ _ z => nomatch z), (fun _ _ _ => rfl)⟩ (fun _ _ z => nomatch z) KX hns hb hbb hlim hg ha hr F hbind (hsp _ known)
  | none =>
    have known : SqL K (track a vs ns) a (ns.map V.int) := .inl (.inr ⟨_, track_at⟩)
    refine go_law (H := track a vs ns) ⟨known, fun b u z => ?_, fun b o z => track_ne ?_⟩ (fun b u z => ?_) KX hns hb hbb hlim hg ha hr F hbind (hsp _ known)
    · by_cases h : b = a
      · subst h
        rw [track_at] at z
        cases z
        exact ⟨rfl, _, _, rfl⟩
      · rw [track_ne h] at z
        cases z
    · rintro rfl
      rw [hk] at z
      cases z
    · by_cases h : b = a
      · subst h
        rw [track_at] at z
        cases z
        exact ⟨ha, by rw [List.length_map]; exact hl, vs, _, rv, ha⟩
      · rw [track_ne h] at z
        cases z
end
theorem walk_ofG {l : PySem.W.OpenLaw} {n k : Nat} {q : Program} {loose : List Str} {XP : (Str → Option Value) → Heap → Prop} {YP : World → Heap → Prop} {d : DefRec} {K : Params → PySem.W.Frag} {sp : World → Sp} {x : Str}
    (hn : l.most = some n) (hn2 : n ≤ sizeLine) (hdf : d.params.defaults = []) (hr : Room k callerA) (hY : ∀ (w : World) (h : Heap), YP w h → (K w.params).In h)
    (F : ∀ (w : World) (mg : Str → Option Value) (fa : Addr) (h : Heap), (K w.params).In h → h.Ns mainGlobals mg → mg d.name = some (.ref fa) →
      ∃ fd : FuncData, (∀ (s : Shared) (u : Value), BindsTo s fd ⟨[u], []⟩ [(x, u)]) ∧ ∀ base : Heap, (K w.params).In base → base.Ns mainGlobals mg → FnG l.prog w (K w.params) mg base k fa fd [x] (sp w))
    (hsp : ∀ (w : World) (H : Hp) (a : Addr) (ns : List Int), ns.length ≤ n → SqL (K w.params) H a (ns.map V.int) → sp w [.ref a] H (fun v _ => v = .bl true) E0) :
    PySem.W.WalkO q loose XP YP l.row.toRowW d [] (fun f vs => PySem.call f vs) := by
  apply Att.attach_call hn hdf
  intro w s₀ s₁ mg mb fa o pm cd doc a vs ns G Y _ _ _ hmg hobj hints hlen hg
  obtain ⟨fd, hb, hF⟩ := F w mg fa _ (hY w _ Y) G.T.g hmg
  exact law_callG (hY w _ Y) G.T.g G.T.b G.T.builtins G.T.nolimit hg hobj hints (Nat.le_trans hlen hn2) hr hF hb fun H hS => hsp w H a ns hlen hS
end Jf
set_option Elab.async false
set_option linter.all false
set_option maxRecDepth 100000
set_option maxHeartbeats 4000000
namespace Jf
open PySem PySem.Spec PyProof.Rows L2 Evl
/-! ### the end of a law whose def shows data, some defs of which hold generators (cs: their code objects, with the tables) -/
def trackT (cs : List (Addr × Addr)) (H : Hp) : Hp := fun b => if b ∈ cs.map (fun p => p.2) then some (.tbl #[]) else H b
theorem trackT_in {cs : List (Addr × Addr)} {H : Hp} {b : Addr} (h : b ∈ cs.map (fun p => p.2)) : trackT cs H b = some (.tbl #[]) := if_pos h
theorem trackT_out {cs : List (Addr × Addr)} {H : Hp} {b : Addr} (h : b ∉ cs.map (fun p => p.2)) : trackT cs H b = H b := if_neg h
structure AskedT (K : PySem.W.Frag) (cs : List (Addr × Addr)) (a : Addr) (ns : List Int) (H : Hp) : Prop where
  known : SqL K H a (ns.map V.int)
  tbl : ∀ b ∈ cs.map (fun p => p.2), H b = some (.tbl #[])
  only : ∀ b u, H b = some u → b ∈ cs.map (fun p => p.2) ∨ (b = a ∧ ∃ o xs, u = .frz o (.lst xs))
  free : ∀ b o, K.lookup b = some o → H b = none
section
variable {P : Program} {w : World} {K : PySem.W.Frag} {mg mb : Str → Option Value} {k : Nat} {fa a : Addr} {fd : FuncData} {x : Str} {sp : Sp} {s₁ : Shared} {vs : List Value} {ns : List Int} {cs : List (Addr × Addr)}
theorem go_lawT {H : Hp} (S : AskedT K cs a ns H) (hok : HOk P w H s₁.heap) (KX : K.In s₁.heap) (hns : s₁.heap.Ns mainGlobals mg) (hb : s₁.heap.Ns builtinsNs mb) (hbb : ∀ x : Str, x ≠ "__name__" → mb x = bootBuiltins x) (hlim : s₁.heap.NoLimit) (hg : s₁.gens = #[])
    (hT : ∀ p ∈ cs, s₁.heap.get? p.2 = some { cls := .none, data := .fields #[] }) (hC : ∀ p ∈ cs, PySem.W.CodeHd s₁.heap p.1 p.2)
    (hbm : ∃ (bm : Addr) (ob : Obj), mg "__builtins__" = some (.ref bm) ∧ bm ≠ builtinsNs ∧ s₁.heap.get? bm = some ob ∧ ob.cls = .type "module" ∧ ob.dict = some builtinsNs ∧ ob.data = .plain)
    (ha : s₁.heap.get? a = some { cls := .type "list", data := .seq vs.toArray }) (hr : Room k callerA)
    (F : ∀ base : Heap, K.In base → base.Ns mainGlobals mg → (∀ p ∈ cs, GxR.TabB base mg p.1 p.2) → FnG P w K mg base k fa fd [x] sp) (hbind : ∀ (s : Shared) (u : Value), BindsTo s fd ⟨[u], []⟩ [(x, u)])
    (hsp : sp [.ref a] H (fun v _ => v = .bl true) E0) :
    codeAny (model P w) callerA (.call (.ref fa) ⟨[.ref a], []⟩) (fun r s' => r = .ok (.ret (.bool true)) ∧ PySem.OldK s₁.heap s'.heap ∧ s'.os = s₁.os ∧ AllBare s'.gens) s₁ := by
  have atT : ∀ b ∈ cs.map (fun p => p.2), s₁.heap.get? b = some { cls := .none, data := .fields #[] } := by
    intro b h
    obtain ⟨p, hp, rfl⟩ := List.mem_map.mp h
    exact hT p hp
  -- what has other data isn't tracked
  have other : ∀ {b : Addr} {o : Obj}, s₁.heap.get? b = some o → o.data ≠ .fields #[] → (∀ us n, o.data ≠ .seq us n) → H b = none := by
    intro b o e n1 n2
    cases q : H b with
    | none => rfl
    | some u =>
      rcases S.only b u q with z | ⟨rfl, _⟩
      · rw [atT b z] at e
        cases e
        exact absurd rfl n1
      · rw [ha] at e
        cases e
        exact absurd rfl (n2 _ _)
  have base_ns : ∀ {b : Addr} {m : Str → Option Value}, s₁.heap.Ns b m → (hidT s₁.heap H).Ns b m := by
    rintro b m ⟨o, es, ep, e, d, r⟩
    exact ⟨o, es, ep, hidT_get e (other e (by rw [d]; exact fun z => nomatch z) fun us n z => by rw [d] at z; cases z), d, r⟩
  have hKb : K.In (hidT s₁.heap H) := fun b o e => hidT_get (KX b o e) (S.free b o e)
  have TB : ∀ p ∈ cs, GxR.TabB (hidT s₁.heap H) mg p.1 p.2 := by
    intro p hp
    have tp := hT p hp
    obtain ⟨o, us, file, tf, flags, tg, inF, text, tt, c1, c2, c3, c4, c5⟩ := hC p hp
    obtain ⟨bm, ob, b1, b2, b3, b4, b5, b6⟩ := hbm
    constructor
    · refine ⟨o, us, file, tf, flags, tg, inF, text, tt, hidT_get c1 (other c1 (fun z => ?_) fun us n z => ?_), c2, c3, c4, c5⟩
      · rw [c3] at z
        cases z
        simp at c4
      · rw [c3] at z
        cases z
    · refine ⟨bm, ob, b1, b2, fun z => ?_, fun z => ?_, hidT_get b3 (other b3 (by rw [b6]; exact fun z => nomatch z) fun us n z => by rw [b6] at z; cases z), b4, b5, b6⟩
      · obtain ⟨o2, es, ep, e, d, _⟩ := hns
        rw [z, e] at b3
        cases b3
        rw [d] at b6
        cases b6
      · rw [z, tp] at b3
        cases b3
        cases b6
    · intro z
      obtain ⟨o2, es, ep, e, d, _⟩ := hns
      rw [z, tp] at e
      cases e
      cases d
  obtain ⟨mc, l1, l2⟩ := hlim
  have e0 : Env0 P w K mg (hidT s₁.heap H) callerA [] s₁ H := by
    constructor
    · rfl
    · exact ⟨hKb, base_ns hns, ⟨mb, base_ns hb, hbb⟩, ⟨mc, base_ns l1, l2⟩⟩
    · exact fun b o e => of_hidT e
    · exact Nat.le_of_eq (hidT_size _ _)
    · trivial
    · intro b hb
      exact absurd (show b ∈ ([] : List Addr) from hb) (by simp)
    · exact hok
    · exact .of_eq hg
  apply codeAny_mono ((F _ hKb (base_ns hns) TB).go callerA [] s₁ H ⟨[.ref a], []⟩ [.ref a] [.ref a] _ rfl hr e0 (hbind s₁ (.ref a)) (.cons rfl .nil) hsp)
  intro r s' h
  match r, h with
  | .error _, h => exact False.elim h
  | .ok (.ret u), ⟨v, H', os, bare, un, hok', r', q⟩ =>
    subst q
    obtain rfl : u = Value.bool true := r'
    have same : ∀ b o, b ∉ cs.map (fun p => p.2) → s₁.heap.get? b = some o → s'.heap.get? b = some o := by
      intro b o nb e
      cases q : H b with
      | none => exact un.keep b o e q (by intro z; exact absurd (show b ∈ ([] : List Addr) from z) (by simp)) (by simp)
      | some u =>
        rcases S.only b u q with z | ⟨rfl, ob, xs, rfl⟩
        · exact absurd z nb
        · have q2 := un.frzs b ob _ q
          have e1 := (hok b _ q).1
          have e2 := (hok' b _ q2).1
          rw [e] at e1
          cases e1
          exact e2
    have more : ∀ b ∈ cs.map (fun p => p.2), ∃ m : Array Value, s'.heap.get? b = some { cls := .none, data := .fields m } := by
      intro b h
      obtain ⟨m, z⟩ := un.tbls b #[] (S.tbl b h)
      exact ⟨_, hok' b _ z⟩
    refine ⟨rfl, ⟨fun b o e => ?_, fun b o e => ?_⟩, os, bare⟩
    · by_cases h : b ∈ cs.map (fun p => p.2)
      · obtain ⟨m, z⟩ := more b h
        obtain ⟨p, hp, rfl⟩ := List.mem_map.mp h
        rw [hT p hp] at e
        cases e
        exact .inr (.inl ⟨((hC p hp).tab (hT p hp)).isCodeTable, rfl, #[], m, rfl, by rw [Array.empty_append]; exact z⟩)
      · exact .inl (same b o h e)
    · by_cases h : b ∈ cs.map (fun p => p.2)
      · obtain ⟨m, z⟩ := more b h
        exact ⟨_, z⟩
      · exact ⟨o, same b o h e⟩
theorem law_callGT (KX : K.In s₁.heap) (hns : s₁.heap.Ns mainGlobals mg) (hb : s₁.heap.Ns builtinsNs mb) (hbb : ∀ x : Str, x ≠ "__name__" → mb x = bootBuiltins x) (hlim : s₁.heap.NoLimit) (hg : s₁.gens = #[])
    (hT : ∀ p ∈ cs, s₁.heap.get? p.2 = some { cls := .none, data := .fields #[] }) (nT : ∀ p ∈ cs, K.lookup p.2 = none) (hC : ∀ p ∈ cs, PySem.W.CodeHd s₁.heap p.1 p.2)
    (hbm : ∃ (bm : Addr) (ob : Obj), mg "__builtins__" = some (.ref bm) ∧ bm ≠ builtinsNs ∧ s₁.heap.get? bm = some ob ∧ ob.cls = .type "module" ∧ ob.dict = some builtinsNs ∧ ob.data = .plain)
    (ha : s₁.heap.get? a = some { cls := .type "list", data := .seq vs.toArray }) (hi : IntsAre vs ns) (hl : ns.length ≤ sizeLine) (hr : Room k callerA)
    (F : ∀ base : Heap, K.In base → base.Ns mainGlobals mg → (∀ p ∈ cs, GxR.TabB base mg p.1 p.2) → FnG P w K mg base k fa fd [x] sp) (hbind : ∀ (s : Shared) (u : Value), BindsTo s fd ⟨[u], []⟩ [(x, u)])
    (hsp : ∀ H : Hp, (∀ p ∈ cs, H p.2 = some (.tbl #[])) → SqL K H a (ns.map V.int) → sp [.ref a] H (fun v _ => v = .bl true) E0) :
    codeAny (model P w) callerA (.call (.ref fa) ⟨[.ref a], []⟩) (fun r s' => r = .ok (.ret (.bool true)) ∧ PySem.OldK s₁.heap s'.heap ∧ s'.os = s₁.os ∧ AllBare s'.gens) s₁ := by
  have rv := vals_ints hi
  have atT : ∀ b ∈ cs.map (fun p => p.2), s₁.heap.get? b = some { cls := .none, data := .fields #[] } := by
    intro b h
    obtain ⟨p, hp, rfl⟩ := List.mem_map.mp h
    exact hT p hp
  have nK : ∀ b ∈ cs.map (fun p => p.2), K.lookup b = none := by
    intro b h
    obtain ⟨p, hp, rfl⟩ := List.mem_map.mp h
    exact nT p hp
  have na : a ∉ cs.map (fun p => p.2) := fun z => by
    have q := atT a z
    rw [ha] at q
    cases q
  have inT : ∀ p ∈ cs, p.2 ∈ cs.map (fun p => p.2) := fun p hp => List.mem_map.mpr ⟨p, hp, rfl⟩
  cases hk : K.lookup a with
  | some o =>
    have e := KX a o hk
    rw [ha] at e
    cases e
    have known : SqL K (trackT cs fun _ => none) a (ns.map V.int) := .inr ⟨_, vs.toArray, _, hk, rfl, rfl, rfl, by rw [List.size_toArray, hi.length]; exact hl, by simpa using rv⟩
    refine go_lawT (H := trackT cs fun _ => none) ⟨known, fun b h => trackT_in h, fun b u z => ?_, fun b o z => ?_⟩ (fun b u z => ?_) KX hns hb hbb hlim hg hT hC hbm ha hr F hbind (hsp _ (fun p hp => trackT_in (inT p hp)) known)
    · by_cases h : b ∈ cs.map (fun p => p.2)
      · exact .inl h
      · rw [trackT_out h] at z
        cases z
    · exact trackT_out fun h => by rw [nK b h] at z; cases z
    · by_cases h : b ∈ cs.map (fun p => p.2)
      · rw [trackT_in h] at z
        cases z
        exact atT b h
      · rw [trackT_out h] at z
        cases z
  | none =>
    have at_a : trackT cs (track a vs ns) a = some (.frz { cls := .type "list", data := .seq vs.toArray } (.lst (ns.map V.int))) := (trackT_out na).trans track_at
    have known : SqL K (trackT cs (track a vs ns)) a (ns.map V.int) := .inl (.inr ⟨_, at_a⟩)
    refine go_lawT (H := trackT cs (track a vs ns)) ⟨known, fun b h => trackT_in h, fun b u z => ?_, fun b o z => ?_⟩ (fun b u z => ?_) KX hns hb hbb hlim hg hT hC hbm ha hr F hbind (hsp _ (fun p hp => trackT_in (inT p hp)) known)
    · by_cases h : b ∈ cs.map (fun p => p.2)
      · exact .inl h
      · rw [trackT_out h] at z
        by_cases h2 : b = a
        · subst h2
          rw [track_at] at z
          cases z
          exact .inr ⟨rfl, _, _, rfl⟩
        · rw [track_ne h2] at z
          cases z
    · refine (trackT_out fun h => ?_).trans (track_ne ?_)
      · rw [nK b h] at z
        cases z
      · rintro rfl
        rw [hk] at z
        cases z
    · by_cases h : b ∈ cs.map (fun p => p.2)
      · rw [trackT_in h] at z
        cases z
        exact atT b h
      · rw [trackT_out h] at z
        by_cases h2 : b = a
        · subst h2
          rw [track_at] at z
          cases z
          exact ⟨ha, by rw [List.length_map]; exact hl, vs, _, rv, ha⟩
        · rw [track_ne h2] at z
          cases z
end
/-- the table of code objects of the def y, as the top leaves it: empty -/
def TabE (K : PySem.W.Frag) (y : Str) (mg : Str → Option Value) (h : Heap) : Prop := ∀ (f c T : Addr) (o : Obj) (fd : FuncData) (e : Value) (dd : Option Addr) (us : Array Value) (sl : Array (Option Value)),
  mg y = some (.ref f) → K.lookup f = some o → o.data = .func fd → fd.code = .ref c → K.lookup c = some ⟨e, dd, .fields us, sl⟩ → us[11]? = some (.ref T) → h.get? T = some { cls := .none, data := .fields #[] }
theorem walk_ofGT {l : PySem.W.OpenLaw} {n k : Nat} {q : Program} {loose : List Str} {XP : (Str → Option Value) → Heap → Prop} {YP : World → Heap → Prop} {d : DefRec} {K : Params → PySem.W.Frag} {sp : World → Sp} {x y : Str}
    (hn : l.most = some n) (hn2 : n ≤ sizeLine) (hdf : d.params.defaults = []) (hr : Room k callerA) (hrec : ((recsOf q).any fun e => e.name == y) = true) (hY : ∀ (w : World) (h : Heap), YP w h → (K w.params).In h)
    (F : ∀ (w : World) (mg : Str → Option Value) (fa : Addr) (h : Heap), (K w.params).In h → h.Ns mainGlobals mg → mg d.name = some (.ref fa) → TabE (K w.params) y mg h →
      ∃ (fd : FuncData) (cs : List (Addr × Addr)), (∀ p ∈ cs, h.get? p.2 = some { cls := .none, data := .fields #[] }) ∧ (∀ p ∈ cs, (K w.params).lookup p.2 = none) ∧ (∀ p ∈ cs, PySem.W.CodeHd h p.1 p.2) ∧ (∀ (s : Shared) (u : Value), BindsTo s fd ⟨[u], []⟩ [(x, u)]) ∧
        (∀ (H : Hp) (a : Addr) (ns : List Int), ns.length ≤ n → (∀ p ∈ cs, H p.2 = some (.tbl #[])) → SqL (K w.params) H a (ns.map V.int) → sp w [.ref a] H (fun v _ => v = .bl true) E0) ∧
        ∀ base : Heap, (K w.params).In base → base.Ns mainGlobals mg → (∀ p ∈ cs, GxR.TabB base mg p.1 p.2) → FnG l.prog w (K w.params) mg base k fa fd [x] (sp w)) :
    PySem.W.WalkO q loose XP YP l.row.toRowW d [] (fun f vs => PySem.call f vs) := by
  apply Att.attach_call hn hdf
  intro w s₀ s₁ mg mb fa o pm cd doc a vs ns G Y _ _ _ hmg hobj hints hlen hg
  have KX := hY w _ Y
  have empty : TabE (K w.params) y mg s₁.heap := by
    intro f c T o1 fd1 e dd us sl k0 k1 k2 k3 k4 k5
    obtain ⟨dL, mem, nm⟩ := List.any_eq_true.mp hrec
    obtain ⟨a2, o2, fd2, c2, T2, h1, h2, h3, h4, _, ⟨oc, vc, t1, _, t3, t4⟩, hT⟩ := G.T.tab dL mem
    rw [beq_iff_eq.mp nm, k0] at h1
    cases h1
    rw [KX _ _ k1] at h2
    cases h2
    rw [k2] at h3
    cases h3
    rw [k3] at h4
    cases h4
    rw [KX _ _ k4] at t1
    cases t1
    cases t3
    rw [k5] at t4
    cases t4
    exact hT
  obtain ⟨fd, cs, hT, nT, hC, hb, hsp, hF⟩ := F w mg fa _ KX G.T.g hmg empty
  exact law_callGT KX G.T.g G.T.b G.T.builtins G.T.nolimit hg hT nT hC G.T.bmain hobj hints (Nat.le_trans hlen hn2) hr hF hb fun H hH hS => hsp H a ns hlen hH hS
theorem walk_ofGK {l : PySem.W.OpenLaw} {n k : Nat} {q : Program} {loose : List Str} {XP : (Str → Option Value) → Heap → Prop} {YP : World → Heap → Prop} {d : DefRec} {K : Params → PySem.W.Frag} {sp : PySem.W.Frag → Addr → Sp} {PA : Addr} {x y : Str}
    (hn : l.most = some n) (hn2 : n ≤ sizeLine) (hdf : d.params.defaults = []) (hr : Room k callerA) (hrec : ((recsOf q).any fun e => e.name == y) = true) (hY : ∀ (w : World) (h : Heap), YP w h → (K w.params).In h)
    (F : ∀ (w : World) (mg : Str → Option Value) (fa : Addr) (h : Heap), (K w.params).In h → h.Ns mainGlobals mg → mg d.name = some (.ref fa) → TabE (K w.params) y mg h →
      ∃ (fd : FuncData) (cs : List (Addr × Addr)), (∀ p ∈ cs, h.get? p.2 = some { cls := .none, data := .fields #[] }) ∧ (∀ p ∈ cs, (K w.params).lookup p.2 = none) ∧ (∀ p ∈ cs, PySem.W.CodeHd h p.1 p.2) ∧ (∀ (s : Shared) (u : Value), BindsTo s fd ⟨[u], []⟩ [(x, u)]) ∧
        (∀ (H : Hp) (a : Addr) (ns : List Int), ns.length ≤ n → (∀ p ∈ cs, H p.2 = some (.tbl #[])) → SqL (K w.params) H a (ns.map V.int) → sp (K w.params) PA [.ref a] H (fun v _ => v = .bl true) E0) ∧
        ∀ base : Heap, (K w.params).In base → base.Ns mainGlobals mg → (∀ p ∈ cs, GxR.TabB base mg p.1 p.2) → FnG l.prog w (K w.params) mg base k fa fd [x] (sp (K w.params) PA)) :
    PySem.W.WalkO q loose XP YP l.row.toRowW d [] (fun f vs => PySem.call f vs) :=
  walk_ofGT (sp := fun w => sp (K w.params) PA) hn hn2 hdf hr hrec hY F
end Jf
set_option Elab.async false
set_option linter.all false
set_option maxRecDepth 100000
set_option maxHeartbeats 4000000
namespace Jf
open PySem PySem.Spec PyProof.Rows L2 Evl
/-! ### sum of a generator over a list of pairs of ints, with one captured int -/
/-- the generator's own scope: two names, one captured -/
structure GenT (scope : Scope) (xa xb xc : Str) : Prop where
  kind : scope.kind = .function
  co : scope.isCoroutine = false
  cell : ∀ y ∈ scope.names, y.2 ≠ .cell
  dot : scope.names.lookup (".0" : Str) = some NameKind.local
  la : scope.names.lookup xa = some .local
  lb : scope.names.lookup xb = some .local
  lc : scope.names.lookup xc = some .free
  ne : xa ≠ xb
  only : ∀ y ∈ scope.names, y.2 = .free → y.1 = xc
  clo : ∀ cells : List (Str × Addr), (cloFrom cells scope.names []).lookup xc = some ((cells.lookup xc).getD 0)
/-- the element: an int of the two and the captured one -/
def EltT (prog : Program) (w : World) (scope : Scope) (xa xb xc : Str) (elt : Expr) (ok : Int → Int → Int → Prop) (g : Int → Int → Int → Int) : Prop :=
  ∀ (cenv : Env) (B : Around) (E : Value → Shared → Prop) (a b d : Int) (ta tb td : Tok) (c : Addr) (s : Shared) (m : Str → Option Value), cenv.scope = scope → ok a b d → s.heap.Ns cenv.locals m → m xa = some (.int a ta) → m xb = some (.int b tb) →
    cenv.cells.lookup xc = some c → s.heap.IsCell c (some (.int d td)) → wpAny (model prog w) B (eval elt cenv) (fun y s1 => (∃ t, y = .int (g a b d) t) ∧ Keeps s s1) E s
abbrev Prs := List (Addr × Int × Int)
def valP (ps : Prs) (d : Int) (g : Int → Int → Int → Int) (j : Nat) : Int := match ps[j]? with
  | some p => g p.2.1 p.2.2 d
  | none => 0
theorem valP_some {ps : Prs} {d : Int} {g : Int → Int → Int → Int} {j : Nat} {p : Addr × Int × Int} (h : ps[j]? = some p) : valP ps d g j = g p.2.1 p.2.2 d := by
  unfold valP
  rw [h]
def sumP (ps : Prs) (d : Int) (g : Int → Int → Int → Int) : Int := (ps.map fun p => g p.2.1 p.2.2 d).sum
theorem preSum_sumP (ps : Prs) (d : Int) (g : Int → Int → Int → Int) : preSum (valP ps d g) ps.length = sumP ps d g := by
  have step : ∀ n, n ≤ ps.length → preSum (valP ps d g) n = sumP (ps.take n) d g := by
    intro n
    induction n with
    | zero => intro _; rfl
    | succ n ih =>
      intro h
      have hn : n < ps.length := h
      have e := List.getElem?_eq_getElem hn
      show preSum (valP ps d g) n + valP ps d g n = _
      rw [ih (Nat.le_of_lt hn), valP_some e, List.take_succ, e]
      unfold sumP
      simp only [Option.toList_some, List.map_append, List.sum_append, List.map_cons, List.map_nil, List.sum_cons, List.sum_nil, Int.add_zero]
  rw [step _ (Nat.le_refl _), List.take_length]
section
variable {X : Cx} {pins : List (Addr × Obj)} {σ : L2.St} {H : Hp} {s : Shared}
/-- the generator's code: found in the def's table, or put there -/
theorem gcode {env : Env} {scope : Scope} {gpos : Pos} {nm : Str} {c P : Addr} {tb : Array Value} {s2 : Shared} {prog : Program} {w : World} {A : Around} {E : Value → Shared → Prop} {Ψ : Value → Shared → Prop} (hcode : env.code = .ref c)
    (cd : PySem.W.CodeHd s2.heap c P) (hP : s2.heap.get? P = some { cls := .none, data := .fields tb }) (ht : TriplesOk tb.toList)
    (rest : ∀ (code : Value) (h3 : Heap) (n3 : Nat) (tb3 : Array Value), Heap.ExtBut P s2.heap h3 → s2.heap.objs.size ≤ h3.objs.size → h3.get? P = some { cls := .none, data := .fields tb3 } → (∃ more, tb3 = tb ++ more) → TriplesOk tb3.toList → Ψ code { s2 with heap := h3, toks := n3 }) :
    wpAny (model prog w) A (genexprCode env gpos nm scope) Ψ E s2 := by
  cases found : codeAmong gpos tb.toList with
  | some cv =>
    apply wpAny_genexprCode_hit hcode (cd.code hP ht) found
    exact rest cv s2.heap s2.toks tb (Heap.ExtBut.refl _ _) (Nat.le_refl _) hP ⟨#[], by simp⟩ ht
  | none =>
    apply wpAny_genexprCodeX hcode (cd.code hP ht) (cd.tab hP) found
    intro c' h' n' hx ge lt co _ tab _
    obtain ⟨_, _, _, _, _, _, _, _, _, _, _, _, _, _, _, _, _, _, _, tr, _⟩ := co
    exact rest _ h' n' _ hx (Nat.le_trans ge (Nat.le_of_lt lt)) tab.2 ⟨_, rfl⟩ tr
/-- ready to be walked -/
def ReadyP (X : Cx) (pins : List (Addr × Obj)) (σ : L2.St) (H1 : Hp) (P : Addr) (ps : Prs) (d : Int) (g : Int → Int → Int → Int) (a : Addr) (s5 : Shared) : Prop :=
  ∃ (fp wr : List Addr) (G : Array GenState → Array GenState → Prop) (F : Nat → Value → Prop) (St : Nat → Shared → Prop),
    WalksS X.prog X.w X.A.in1 a fp wr G ps.length F St ∧ St 0 s5 ∧ (∀ b ∈ fp, b < s5.heap.objs.size) ∧ (∀ j v, F j v → ∃ t, v = .int (valP ps d g j) t) ∧ ∀ s', Moved wr G s5 s' → ∃ H2, GxR.Tabbed P H1 H2 ∧ Inv X pins σ H2 s'
/-- what the walked list holds -/
def PrsAt (K : PySem.W.Frag) (H : Hp) (yl : Addr) (ps : Prs) : Prop := SqL K H yl (ps.map fun p => V.ref p.1) ∧ ∀ p ∈ ps, SqT K H p.1 [.int p.2.1, .int p.2.2]
theorem gen_prs {c P : Addr} {elt iter : Expr} {xa xb xc : Str} {pa pb pt gpos : Pos} {kt ic k : Nat} {scope : Scope} {ok : Int → Int → Int → Prop} {g : Int → Int → Int → Int} {te : TE} {Q' : Value → Shared → Prop} {R : Prs → Int → Hp → Prop}
    (hr : Room k X.A) (TB : GxR.TabB X.base X.mg c P) (hcode : X.env.code = .ref c) (S : GenT scope xa xb xc) (hN : X.N[ic]? = some xc) (hk : X.env.kindOf xc = some .cell) (hi : PE X iter te) (hel : EltT X.prog X.w scope xa xb xc elt ok g)
    (hs : ∀ v, genFold iter X.env v = pure v) (I : Inv X pins σ H s)
    (h : te σ H fun v H1 => ∃ (yl : Addr) (ps : Prs) (d : Int), v = .ref yl ∧ PrsAt X.K H1 yl ps ∧ (∀ p ∈ ps, ok p.2.1 p.2.2 d) ∧ σ[ic]? = some (some (.int d)) ∧ GxR.TabG H1 P ∧ R ps d H1)
    (hQ : ∀ ps d H1 a s5, R ps d H1 → ReadyP X pins σ H1 P ps d g a s5 → Q' (.ref a) s5) :
    wpAny (model X.prog X.w) X.A (eval (.GeneratorExp elt [⟨.Tuple [.Name xa pa, .Name xb pb] kt pt, iter, [], 0⟩] scope gpos) X.env) Q' X.xe s := by
  obtain ⟨cc, hcc⟩ := I.ok.has xc (.inl hk)
  have hfree : ∀ y ∈ scope.names, y.2 = .free → ∃ c, X.env.cells.lookup y.1 = some c := fun y hy hf => ⟨cc, by rw [S.only y hy hf]; exact hcc⟩
  have hclo : (cloFrom X.env.cells scope.names []).lookup xc = some cc := by rw [S.clo, hcc]; rfl
  apply wpAny_GeneratorExp_walksQT hr.hd S.co (closure_ok hfree) S.cell S.dot S.la S.lb S.ne S.kind (by have := hr.dp; omega) (hs := hs)
  apply thn (hi.run pins s σ H _ I h)
  rintro xv s1 ⟨v, H1, I1, r1, yl, ps, d, rfl, ⟨hyl, hT⟩, hok, hd, ⟨tb, hP, ht⟩, q1⟩
  obtain rfl : xv = Value.ref yl := r1
  obtain ⟨its, rv, pl, hz⟩ := I1.list hyl
  have lst := pl.isList
  have nits : its.length = ps.length := by rw [← rv.length, List.length_map]
  have iat : ∀ (j : Nat) (p : Addr × Int × Int), ps[j]? = some p → its[j]? = some (Value.ref p.1) := by
    intro j p hp
    have e : (ps.map fun (p : Addr × Int × Int) => V.ref p.1)[j]? = some (V.ref p.1) := by rw [List.getElem?_map, hp]; rfl
    obtain ⟨u, hu, ru⟩ := rv.get e
    cases (show u = Value.ref p.1 from ru)
    exact hu
  have tup : ∀ j : Nat, ∃ uv : Tok × Tok, ∀ p : Addr × Int × Int, ps[j]? = some p → s1.heap.IsTuple p.1 #[.int p.2.1 uv.1, .int p.2.2 uv.2] := by
    intro j
    cases hj : ps[j]? with
    | none => exact ⟨(0, 0), fun p z => nomatch z⟩
    | some p =>
      obtain ⟨ts, tv, ⟨o, e1, e2, n, e3⟩, _⟩ := I1.tuple (hT p (List.mem_of_getElem? hj))
      cases tv with
      | cons ra rb =>
        cases rb with
        | cons rb rc =>
          cases rc
          obtain ⟨u, rfl⟩ := _root_.id ra
          obtain ⟨v, rfl⟩ := _root_.id rb
          refine ⟨(u, v), fun q z => ?_⟩
          cases z
          exact ⟨o, e1, e2, n, e3⟩
  obtain ⟨tk, htk⟩ := Classical.skolem.mp tup
  obtain ⟨uc, td, huc⟩ : ∃ (uc : Value) (td : Tok), uc = .int d td ∧ s1.heap.IsCell cc (some uc) := by
    obtain ⟨m, _, hm⟩ := I1.loc
    obtain ⟨u, ru, lk⟩ := hm ic xc (.int d) hN hd (.inr (.inl hk))
    obtain ⟨td, rfl⟩ := _root_.id ru
    rcases lk with ⟨z, _⟩ | ⟨_, c2, e2, hc2⟩
    · rw [hk] at z
      cases z
    · rw [hcc] at e2
      cases e2
      exact ⟨_, td, rfl, hc2⟩
  obtain ⟨rfl, hcell⟩ := huc
  let Ts : Nat → Addr := fun j => ((ps[j]?).map fun (p : Addr × Int × Int) => p.1).getD 0
  let vs : Nat → Array Value := fun j => ((ps[j]?).map fun (p : Addr × Int × Int) => (#[.int p.2.1 (tk j).1, .int p.2.2 (tk j).2] : Array Value)).getD #[.none, .none]
  have pat : ∀ j, j < its.toArray.size → ∃ p : Addr × Int × Int, ps[j]? = some p := fun j hj => by
    have : j < ps.length := by simpa [nits] using hj
    exact ⟨ps[j], List.getElem?_eq_getElem this⟩
  have tsT : ∀ j, j < its.toArray.size → s1.heap.IsTuple (Ts j) (vs j) := fun j hj => by
    obtain ⟨p, e⟩ := pat j hj
    have := htk j p e
    simpa only [Ts, vs, e, Option.map_some, Option.getD_some] using this
  have tlt : ∀ j, j < its.toArray.size → Ts j < s1.heap.objs.size := fun j hj => by
    obtain ⟨_, e, _⟩ := tsT j hj
    exact Heap.lt_size e
  have hit : ∀ j, j < its.toArray.size → its.toArray[j]? = some (.ref (Ts j)) := fun j hj => by
    obtain ⟨p, e⟩ := pat j hj
    have := iat j p e
    simpa only [Ts, e, Option.map_some, Option.getD_some, List.getElem?_toArray] using this
  have ylt : yl < s1.heap.objs.size := by
    obtain ⟨_, e, _⟩ := _root_.id lst
    exact Heap.lt_size e
  have WW := fun (B : Around) (hB : B.handled = none) => (WalksU.listOfTuples (prog := X.prog) (w := X.w) hB s1.heap.objs.size yl (Nat.ne_of_lt ylt) its.toArray Ts vs hit fun j hj => Nat.ne_of_lt (tlt j hj)).bound
  apply wpAny_pyIter_list lst
  generalize ho : ({ cls := .type "list_iterator", data := .fields #[.ref yl, .int 0 0] } : Obj) = it0
  have iter0 : (s1.heap.push it0).IsListIter s1.heap.objs.size yl 0 := by
    subst ho
    exact ⟨_, Heap.get?_push_size _ rfl, rfl, rfl⟩
  have old : ∀ b u, s1.heap.get? b = some u → (s1.heap.push it0).get? b = some u := fun b u e => Heap.get?_push_of_some _ e
  have tabS : s1.heap.get? P = some { cls := .none, data := .fields tb } := I1.hok P _ hP
  have Plt : P < s1.heap.objs.size := Heap.lt_size tabS
  have lim2 : (s1.heap.push it0).NoLimit := I1.nolimit.push it0
  refine ⟨lim2, ?_⟩
  refine gcode (s2 := { s1 with heap := s1.heap.push it0 }) hcode (TB.code.keeps fun b u e => old b u (I1.bk b u e)) (old _ _ tabS) ht fun code h3 n3 tb3 hx hsz hP3 hmore ht3 => ?_
  obtain ⟨bm, ob, e1, e2, e3, e4, e5, e6, e7, e8⟩ := TB.bm
  have keep3 : ∀ b u, b ≠ P → s1.heap.get? b = some u → h3.get? b = some u := fun b u hb e => hx b u hb (old b u e)
  have sz3 : s1.heap.objs.size < h3.objs.size := by
    have e : (s1.heap.push it0).objs.size = s1.heap.objs.size + 1 := Heap.size_push ..
    have hsz' : (s1.heap.push it0).objs.size ≤ h3.objs.size := hsz
    omega
  have cP : cStatics ≠ P := fun e => by
    obtain ⟨_, hns, _⟩ := I1.nolimit
    obtain ⟨o', es, ep, ho', hd', _⟩ := hns
    rw [e, tabS] at ho'
    cases ho'
    cases hd'
  have clt : cStatics < s1.heap.objs.size := by
    obtain ⟨_, hns, _⟩ := I1.nolimit
    exact hns.lt
  apply wpAny_builtinsFor (m := X.mg) (by rw [I1.ok.glob]; exact ((I1.mod.glob.keeps I1.bk).push it0).extBut hx TB.gP) e1 e2 (keep3 _ _ e4 (I1.bk _ _ e5)) e6 e7 e8
  have yP : yl ≠ P := fun z => by
    obtain ⟨_, e, hc1, _, hd1⟩ := _root_.id lst
    rw [z, tabS] at e
    cases e
    cases hd1
  have tP : ∀ j, j < its.toArray.size → Ts j ≠ P := fun j hj z => by
    obtain ⟨_, e, hc1, _⟩ := tsT j hj
    rw [z, tabS] at e
    cases e
    cases hc1
  have ccP : cc ≠ P := fun z => by
    obtain ⟨o, e, hc1⟩ := _root_.id hcell
    rw [z, tabS] at e
    cases e
    cases hc1
  have cclt : cc < s1.heap.objs.size := by
    obtain ⟨o, e, _⟩ := _root_.id hcell
    exact Heap.lt_size e
  have lst3 : h3.IsList yl its.toArray := by
    obtain ⟨ob, e, r⟩ := _root_.id lst
    exact ⟨ob, keep3 _ _ yP e, r⟩
  have iter3 : h3.IsListIter s1.heap.objs.size yl 0 := iter0.at fun u e => hx _ u (Nat.ne_of_gt Plt) e
  have ts3 : ∀ j, j < its.toArray.size → h3.IsTuple (Ts j) (vs j) := fun j hj => (tsT j hj).at fun o e => keep3 _ _ (tP j hj) e
  have cell3 : h3.IsCell cc (some (.int d td)) := by
    obtain ⟨o, e, r⟩ := _root_.id hcell
    exact ⟨o, keep3 _ _ ccP e, r⟩
  refine ⟨s1.heap.objs.size, _, _, _, _, _, _, (fun _ => true), (fun i y => ∃ (p : Addr × Int × Int) (t : Tok), ps[i]? = some p ∧ y = .int (g p.2.1 p.2.2 d) t), rfl, WW, ?_, ⟨iter3, lst3, ts3⟩, ?_, lim2.extBut hx cP, ?_, ?_, ?_⟩
  · rintro i v ⟨hi, rfl⟩
    obtain ⟨p, e⟩ := pat i hi
    exact ⟨.int p.2.1 (tk i).1, .int p.2.2 (tk i).2, by simp only [vs, e, Option.map_some, Option.getD_some]⟩
  · intro b hb
    show b < h3.objs.size
    rcases List.mem_cons.mp hb with rfl | hb
    · exact sz3
    · rcases List.mem_cons.mp hb with rfl | hb
      · exact Nat.lt_trans ylt sz3
      · obtain ⟨j, hj, rfl⟩ := List.mem_map.mp hb
        exact Nat.lt_trans (tlt j (List.mem_range.mp hj)) sz3
  · intro z
    rcases List.mem_cons.mp z with z | z
    · exact Nat.ne_of_lt clt z
    · cases z
  · intro href hhref
    refine ⟨fun B E' i va vb s₂ m₂ hB hPv hn ha hb hk => ?_, fun B E' i va vb s₂ m₂ hB hPv hp hn ha hb hk => ?_⟩
    · simp only [List.forIn_nil]
      exact wpAny_pure ⟨rfl, GxR.keeps_refl _⟩
    · obtain ⟨hi, ev⟩ := hPv
      obtain ⟨p, e⟩ := pat i hi
      simp only [vs, e, Option.map_some, Option.getD_some] at ev
      obtain ⟨rfl, rfl⟩ : va = .int p.2.1 (tk i).1 ∧ vb = .int p.2.2 (tk i).2 := by simpa using congrArg Array.toList ev
      have c2 : s₂.heap.IsCell cc (some (.int d td)) := by
        obtain ⟨o, e9, r⟩ := _root_.id cell3
        refine ⟨o, hk cc ?_ ?_ o (hhref _ _ e9), r⟩
        · exact List.mem_range.mpr (Nat.lt_trans cclt sz3)
        · intro z
          rcases List.mem_cons.mp z with z | z
          · exact Nat.ne_of_lt cclt z
          · cases z
      exact wpAny_mono (hel _ B E' p.2.1 p.2.2 d _ _ td cc s₂ m₂ rfl (hok p (List.mem_of_getElem? e)) hn ha hb hclo c2) (fun y s3 r => ⟨⟨p, r.1.choose, e, r.1.choose_spec⟩, r.2⟩) fun _ _ e => e
  · intro a h5 n5 gs bare gt hsz5 hk5 W5 at5
    simp only [GxR.passing_true, List.length_range] at W5
    have nI : its.toArray.size = ps.length := by rw [List.size_toArray, nits]
    rw [nI] at W5 at5
    refine hQ ps d H1 a _ q1 ⟨_, _, _, _, _, W5.in4_1, at5, ?_, fun j v hv => ?_, fun s' mv => ?_⟩
    · intro b hb
      show b < h5.objs.size
      have e5 : h5.objs.size = a + 1 := hsz5
      have e3 : h3.objs.size < a := gt
      rw [e5]
      rcases List.mem_cons.mp hb with rfl | hb
      · exact Nat.lt_succ_self _
      · rcases List.mem_cons.mp hb with rfl | hb
        · exact Nat.lt_succ_of_lt e3
        · exact Nat.lt_succ_of_lt (Nat.lt_trans (show b < h3.objs.size from List.mem_range.mp hb) e3)
    · obtain ⟨i, hij, p, t, e, rfl⟩ := hv
      obtain ⟨hj, ej⟩ := List.getElem?_eq_some_iff.mp hij
      rw [List.getElem_range] at ej
      subst ej
      exact ⟨t, by rw [valP_some e]⟩
    · obtain ⟨more, em⟩ := hmore
      have apart : ∀ b u, s1.heap.get? b = some u → b ∉ h3.objs.size :: [s1.heap.objs.size] := by
        intro b u e hb
        have l := Heap.lt_size e
        rcases List.mem_cons.mp hb with z | z
        · rw [z] at l
          exact Nat.lt_asymm (show h3.objs.size < s1.heap.objs.size from l) sz3
        · rcases List.mem_cons.mp z with z | z
          · rw [z] at l
            exact Nat.lt_irrefl _ l
          · cases z
      have J := GxR.inv_tab (more := more) (h' := s'.heap) (g' := s'.gens) (d' := s'.drawn) (t' := s'.toks) I1 hP (fun b u hb e => mv.heap b u (apart b u e) (hk5 b u (keep3 b u hb e)))
        (by rw [← em]; exact mv.heap P _ (apart P _ tabS) (hk5 P _ hP3)) (AllBare.movedS (I1.bare.push bare) mv)
      rw [GxR.sh_eta s1 s' mv.os] at J
      exact ⟨_, ⟨⟨tb ++ more, upd_same, by rw [← em]; exact ht3⟩, fun b hb => upd_ne hb⟩, J⟩
/-- sum(elt for xa, xb in te); behind it the def's table may have grown -/
def tSumP (K : PySem.W.Frag) (P : Addr) (ok : Int → Int → Int → Prop) (g : Int → Int → Int → Int) (ic : Nat) (te : TE) : TE := fun σ H Q => te σ H fun v H1 =>
  ∃ (yl : Addr) (ps : Prs) (d : Int), v = .ref yl ∧ PrsAt K H1 yl ps ∧ (∀ p ∈ ps, ok p.2.1 p.2.2 d) ∧ σ[ic]? = some (some (.int d)) ∧ GxR.TabG H1 P ∧ ∀ H2, GxR.Tabbed P H1 H2 → Q (.int (sumP ps d g)) H2
theorem pe_sumP {c P : Addr} {elt iter : Expr} {xa xb xc : Str} {pa pb pt gpos p pos : Pos} {kt ic k : Nat} {scope : Scope} {ok : Int → Int → Int → Prop} {g : Int → Int → Int → Int} {te : TE}
    (hr : Room k X.A) (hg : Gl X "sum") (hm : X.mg "sum" = none) (TB : GxR.TabB X.base X.mg c P) (hcode : X.env.code = .ref c) (S : GenT scope xa xb xc) (hN : X.N[ic]? = some xc) (hk : X.env.kindOf xc = some .cell) (hi : PE X iter te) (hel : EltT X.prog X.w scope xa xb xc elt ok g)
    (hs : ∀ v, genFold iter X.env v = pure v) (hb : bootBuiltins "sum" = some (.builtin "sum") := by decide +kernel)
    (he : starEach [.GeneratorExp elt [⟨.Tuple [.Name xa pa, .Name xb pb] kt pt, iter, [], 0⟩] scope gpos] X.env = (false, eval (.GeneratorExp elt [⟨.Tuple [.Name xa pa, .Name xb pb] kt pt, iter, [], 0⟩] scope gpos) X.env) :: starEach [] X.env := by rfl) :
    PE X (.Call (.Name "sum" p) [.GeneratorExp elt [⟨.Tuple [.Name xa pa, .Name xb pb] kt pt, iter, [], 0⟩] scope gpos] [] pos) (tSumP X.K P ok g ic te) := by
  constructor
  intro pins s σ H Q I want
  apply wpAny_Call_Name_kw (ld_blt I hg hm hb ?_)
  apply PyProof.Rows.callWith_builtin1 ?_ he (by rfl)
  rw [he]
  show wpAny _ _ (spliced ((false, eval (.GeneratorExp elt [⟨.Tuple [.Name xa pa, .Name xb pb] kt pt, iter, [], 0⟩] scope gpos) X.env) :: backTo pos (starEach [] X.env))) _ _ s
  apply Calls.spliced_cons (gen_prs (R := fun ps d H1 => ∀ H2, GxR.Tabbed P H1 H2 → Q (.int (sumP ps d g)) H2) hr TB hcode S hN hk hi hel hs I want ?_)
  intro ps d H1 a s5 k5 ready
  obtain ⟨fp, wr, G, F, St, W, st0, below, vals, ends⟩ := ready
  apply Calls.spliced_nil
  apply call_sum_walkAnyS
  refine W.self 0 _ _ _ st0 ⟨a, fp, wr, G, _, F, St, valP ps d g, rfl, W, st0, below, vals, fun s' t' mv => ?_⟩
  obtain ⟨H2, tabbed, J⟩ := ends s' mv
  rw [preSum_sumP]
  exact ⟨.int _, H2, J, ⟨t', rfl⟩, k5 H2 tabbed⟩
end
/-! ### the element top * (bottom // below) -/
def okCut (a b d : Int) : Prop := CDivZ d b ∧ CMulW a (d.fdiv b)
def gCut (a b d : Int) : Int := a * d.fdiv b
theorem elt_cut {prog : Program} {w : World} {scope : Scope} {xa xb xc : Str} {p1 p2 p3 p4 p5 : Pos} (S : GenT scope xa xb xc) (da : (xa == ("__debug__" : Str)) = false := by decide) (db : (xb == ("__debug__" : Str)) = false := by decide) (dc : (xc == ("__debug__" : Str)) = false := by decide)
    (dk : (xc == ("__classdict__" : Str)) = false := by decide) :
    EltT prog w scope xa xb xc (.BinOp (.Name xa p1) .Mult (.BinOp (.Name xc p2) .FloorDiv (.Name xb p3) p4) p5) okCut gCut := by
  intro cenv B E a b d ta tb td c s m hs ho hn ha hb hc hcell
  have kf : cenv.scope.kind = .function := by rw [hs]; exact S.kind
  have la : cenv.kindOf xa = some .local := by show cenv.scope.names.lookup xa = _; rw [hs]; exact S.la
  have lb : cenv.kindOf xb = some .local := by show cenv.scope.names.lookup xb = _; rw [hs]; exact S.lb
  have lc : cenv.kindOf xc = some .free := by show cenv.scope.names.lookup xc = _; rw [hs]; exact S.lc
  apply wpAny_BinOp
  apply wpAny_Name (wpAny_loadName_local kf la hn ha ?_) da
  apply wpAny_BinOp
  apply wpAny_Name (wpAny_loadName_free kf lc hc hcell ?_ dk) dc
  apply wpAny_Name (wpAny_loadName_local kf lb hn hb ?_) db
  apply floordiv_int ho.1.1 ?_ (.inl (PyProof.noPylong_of_log2 ho.1.2))
  apply mul_int ?_ ho.2.ok
  exact ⟨⟨_, rfl⟩, GxR.keeps_tok _ _⟩
end Jf
set_option Elab.async false
set_option linter.all false
set_option maxRecDepth 100000
set_option maxHeartbeats 4000000
namespace Jf
open PySem PySem.Spec PyProof.Rows L2 Evl GxR GenW
/-! ### all(e for x in a tuple), e of any kind that the layer reads -/
/-- the inner scope: one name, nothing captured -/
structure OneN (scope : Scope) (x : Str) : Prop where
  kind : scope.kind = .function
  co : scope.isCoroutine = false
  cell : ∀ y ∈ scope.names, y.2 ≠ .cell
  dot : scope.names.lookup (".0" : Str) = some NameKind.local
  loc : scope.names.lookup x = some .local
  free : ∀ y ∈ scope.names, y.2 ≠ .free
  ne : (".0" : Str) ≠ x
/-- the inner context: the callers' frames behind it, the walked iterator free to turn -/
def gxOf (X : Cx) (x : Str) (s : Shared) (H : Hp) (cenv : Env) (B : Around) (I : Addr) : Cx where
  prog := X.prog
  w := X.w
  K := X.K
  mg := X.mg
  base := X.base
  A := B
  N := [".0", x]
  s_0 := s
  H_0 := H
  env := cenv
  outer := X.stack
  stack := cenv :: X.stack
  ex := [I]
  fn := fun _ => true
  calm := true
  pn := []
  xe := fun _ _ => False
/-- the reading: from the left, till one says no -/
def rdAll (te : TE) : List V → Hp → (Bool → Hp → Prop) → Prop
  | [], H, Q => Q true H
  | v :: vs, H, Q => te [none, some v] H fun r H' => ∃ b, r = .bl b ∧ (b = true → rdAll te vs H' Q) ∧ (b = false → Q false H')
section
variable {X : Cx}
/-- where the generator stands: its object, its iterator -/
def gPins (a I t : Addr) (go : Obj) (i : Nat) (io : Obj) : List (Addr × Obj) := [(a, go), (I, io)]
def GInv (Y : Cx) (a I t : Addr) (go : Obj) (i : Nat) (H : Hp) (s : Shared) : Prop :=
  ∃ (σ : L2.St) (io : Obj), σ.length = 2 ∧ σ[0]? = some none ∧ io.cls = .type "tuple_iterator" ∧ io.data = .fields #[.ref t, .int i 0] ∧ Inv Y [(a, go), (I, io)] σ H s
def gDone (Y : Cx) (Q : Bool → Hp → Prop) (_ : Nat) (_ s : Shared) : Prop := ∃ σ H, Inv Y [] σ H s ∧ Q true H
def gEnd (Y : Cx) (Q : Bool → Hp → Prop) : GenEnd := fun n s₀ r s => ((r = .ok (.ret .none) ∨ r = .ok .next) ∧ gDone Y Q n s₀ s) ∨ ∃ e, r = .error e ∧ False
def gProt (Y : Cx) (a I t : Addr) (go : Obj) (Q : Bool → Hp → Prop) : Protocol := fun _ _ v s kap =>
  ∃ b i H, v = .bool b ∧ GInv Y a I t go i H s ∧ (b = false → Q false H) ∧ (b = true → ∀ s', s'.os = s.os → AllBare s'.gens → s'.heap = s.heap → kap (.send .none) s')
theorem GInv.woke {Y : Cx} {a I t : Addr} {go : Obj} {i : Nat} {H : Hp} {s s' : Shared} (h : GInv Y a I t go i H s) (o : s'.os = s.os) (g : AllBare s'.gens) (e : s'.heap = s.heap) : GInv Y a I t go i H s' := by
  obtain ⟨σ, io, l, z, c, d, J⟩ := h
  refine ⟨σ, io, l, z, c, d, J.call' (ch := []) o ?_ ?_ g fun b z => by simp at z⟩
  · rw [e]
    exact Un.kept fun _ _ q => q
  · rw [e]
    exact J.hok
theorem Inv.sqt {Y : Cx} {pins : List (Addr × Obj)} {σ : L2.St} {H : Hp} {s : Shared} {t : Addr} {xs : List V} (J : Inv Y pins σ H s) (h : SqT Y.K Y.H_0 t xs) : SqT Y.K H t xs := by
  rcases h with (h | ⟨o, h⟩) | h
  · exact .inl (.inl (J.base.tups _ _ h))
  · exact .inl (.inr ⟨o, J.base.frzs _ _ _ h⟩)
  · exact .inr h
theorem GInv.turn {Y : Cx} {a I : Addr} {go io : Obj} {σ : L2.St} {H : Hp} {s : Shared} {h' : Heap} (J : Inv Y [(a, go), (I, io)] σ H s) (hex : I ∈ Y.ex) (haI : a ≠ I) (hpn : Y.pn = []) (hcl : Y.env.cells = [])
    (k : ∀ b o, b ≠ I → s.heap.get? b = some o → h'.get? b = some o) : Inv Y [(a, go)] σ H { s with heap := h' } := by
  have pI := J.pin (I, io) (List.mem_append_right _ (by simp))
  have J0 : Inv Y [(a, go)] σ H s := J.pins_of fun p hp => J.pin p (List.mem_append_right _ (by
    rw [List.mem_singleton.mp hp]
    simp))
  refine J0.turned (t' := s.toks) k pI.2.1 pI.2.2.1 (.inl hex) (fun y c e => ?_) fun p hp => ?_
  · rw [hcl] at e
    cases e
  · rw [hpn, List.nil_append, List.mem_singleton] at hp
    rw [hp]
    exact haI
theorem seg_allLoop {Y : Cx} {Aw : Around} {elt iter : Expr} {x : Str} {px pos : Pos} {scope : Scope} {a I t : Addr} {go : Obj} {xs : List V} {te : TE} {Q : Bool → Hp → Prop}
    (hA : Aw.handled = none) (hY : Y.A = Aw.over (.compLoop (.GeneratorExp elt [⟨.Name x px, iter, [], 0⟩] scope pos) 0 (.ref I) .none Y.env) [])
    (hN : Y.N = [(".0" : Str), x]) (S : OneN scope x) (hsc : Y.env.scope = scope) (hcl : Y.env.cells = []) (hex : I ∈ Y.ex) (haI : a ≠ I) (hIt : t ≠ I) (hpn : Y.pn = []) (hxe : Y.xe = fun _ _ => False)
    (hel : PE Y elt te) (hT : SqT Y.K Y.H_0 t xs) (hgo : ∀ v, go.data ≠ .cell v) :
    ∀ (vs : List V) (i : Nat) (H : Hp) (s₀ s : Shared), xs.drop i = vs → GInv Y a I t go i H s → rdAll te vs H Q →
      Seg (model Y.prog Y.w) Aw (gEnd Y Q) (gProt Y a I t go Q) vs.length s₀ (.compLoop (.GeneratorExp elt [⟨.Name x px, iter, [], 0⟩] scope pos) 0 (.ref I) .none Y.env)
        ((model Y.prog Y.w).den (.compLoop (.GeneratorExp elt [⟨.Name x px, iter, [], 0⟩] scope pos) 0 (.ref I) .none Y.env)) [] s := by
  have hh' : (Aw.over (.compLoop (.GeneratorExp elt [⟨.Name x px, iter, [], 0⟩] scope pos) 0 (.ref I) .none Y.env) []).handled = none := hA
  have hco : Y.env.scope.isCoroutine = false := by rw [hsc]; exact S.co
  intro vs
  induction vs with
  | nil =>
    intro i H s₀ s hd hG hr
    obtain ⟨σ, io, l, z, hc, hdd, J⟩ := hG
    obtain ⟨its, rv, tp, _⟩ := J.tuple (Inv.sqt J hT)
    have pI := J.pin (I, io) (List.mem_append_right _ (by simp))
    have hlen : its.toArray[i]? = none := by
      have h1 := rv.length
      have h2 : xs.length ≤ i := List.drop_eq_nil_iff.mp hd
      rw [List.getElem?_toArray]
      exact List.getElem?_eq_none (by omega)
    show Seg _ Aw _ _ _ s₀ _ ((compTurn (.GeneratorExp elt [⟨.Name x px, iter, [], 0⟩] scope pos) 0 (.ref I) .none Y.env).onRaise (leaving Y.env)) [] s
    rw [compTurn_gen, Sem.onRaise_eq_wrap]
    refine seg_bind_wrap (wpAny_standAt ?_)
    refine seg_bind_wrap (wpAny_pyNext_tuple_end hh' ⟨io, pI.1, hc, hdd⟩ tp hlen fun h' hx => ?_)
    refine seg_end (.ok .next) (.inl ⟨.inr rfl, σ, H, ?_, hr⟩)
    exact (GInv.turn J hex haI hpn hcl fun b o hb e => hx b o hb e).pins_of fun p hp => by simp at hp
  | cons v vs ih =>
    intro i H s₀ s hd hG hr
    obtain ⟨σ, io, l, z, hc, hdd, J⟩ := hG
    obtain ⟨its, rv, tp, _⟩ := J.tuple (Inv.sqt J hT)
    have pI := J.pin (I, io) (List.mem_append_right _ (by simp))
    have pa := J.pin (a, go) (List.mem_append_right _ (by simp))
    have hxi : xs[i]? = some v := by
      have := congrArg (fun q : List V => q[0]?) hd
      simpa using this
    have hd2 : xs.drop (i + 1) = vs := by
      have := congrArg List.tail hd
      simpa [List.tail_drop] using this
    obtain ⟨u, hu, ru⟩ := rv.get hxi
    show Seg _ Aw _ _ _ s₀ _ ((compTurn (.GeneratorExp elt [⟨.Name x px, iter, [], 0⟩] scope pos) 0 (.ref I) .none Y.env).onRaise (leaving Y.env)) [] s
    rw [compTurn_gen, Sem.onRaise_eq_wrap]
    refine seg_bind_wrap (wpAny_standAt ?_)
    refine seg_bind_wrap (wpAny_pyNext_tuple_item (i := i) (x := u) ⟨io, pI.1, hc, hdd⟩ tp (by rw [List.getElem?_toArray]; exact hu) fun h' it' sb => ?_)
    obtain ⟨io', hio', hc', hd'⟩ := it'
    have J1 : Inv Y [(a, go), (I, io')] σ H { s with heap := h' } := by
      have J0 := GInv.turn J hex haI hpn hcl fun b o hb e => sb.extBut b o hb e
      refine J0.pins_of fun p hp => ?_
      rcases List.mem_cons.mp hp with rfl | hp
      · exact J0.pin _ (List.mem_append_right _ (by simp))
      · rw [List.mem_singleton] at hp
        subst hp
        exact ⟨hio', pI.2.1, pI.2.2.1, pI.2.2.2.1, fun v q => by rw [hd'] at q; cases q⟩
    refine seg_bind_wrap (wpAny_of_eq (rfl : letOwnedTupleGo (.Name x px) (.ref I) u = pure ()) ?_)
    have nd : Y.N.Nodup := by
      rw [hN]
      simp [S.ne]
    have lc : Loc Y.env.scope x := by
      rw [hsc]
      exact .inl S.loc
    refine seg_bind_wrap ?_
    rw [← hY]
    refine wpAny_mono ((pg_name (X := Y) (pos := px) (i := 1) (x := x) nd (by rw [hN]; rfl) lc (by right; rw [hsc]; exact S.loc)).run _ _ σ H v u (fun σ' H' => σ' = [none, some v] ∧ H' = H) J1 ru ?_) (fun _ s2 h2 => ?_) fun e s' hx => by rw [hxe] at hx; exact hx.elim
    · refine ⟨?_, rfl⟩
      match σ, l, z with
      | [none, y], _, _ => rfl
      | [some _, y], _, z => simp at z
    obtain ⟨σ2, H2, J2, rfl, rfl⟩ := h2
    refine seg_bind_wrap ?_
    simp only [List.forIn_nil]
    refine wpAny_pure ?_
    simp only [if_true]
    have hy : ∀ v, yieldOut Y.env v = yieldValue v := fun v => by simp only [yieldOut, hco, Bool.false_eq_true, if_false]
    simp only [hy]
    rw [Sem.bind_eq_wrap', Sem.bind_eq_wrap', Sem.wrap_wrap, Sem.wrap_wrap]
    refine seg_wrap ?_
    rw [← hY]
    refine wpAny_mono (hel.run _ _ _ _ _ J2 hr) (fun y s3 h3 => ?_) fun e s' hx => by rw [hxe] at hx; exact hx.elim
    obtain ⟨r, H3, J3, rr, b, rfl, ht, hf⟩ := h3
    obtain rfl : y = Value.bool b := rr
    have G3 : GInv Y a I t go (i + 1) H3 s3 := ⟨_, io', rfl, rfl, hc', hd', J3⟩
    refine seg_at (seg_yield rfl rfl rfl ⟨b, i + 1, H3, rfl, G3, hf, fun hb s' o g e => ?_⟩)
    exact seg_again rfl (ih (i + 1) H3 s' s' hd2 (G3.woke o g e) (ht hb))
end
theorem seg_allStart {Y : Cx} {Aw : Around} {elt iter : Expr} {x : Str} {px pos : Pos} {scope : Scope} {a I t : Addr} {go : Obj} {xs : List V} {te : TE} {Q : Bool → Hp → Prop}
    (hA : Aw.handled = none) (hY : Y.A = Aw.over (.compLoop (.GeneratorExp elt [⟨.Name x px, iter, [], 0⟩] scope pos) 0 (.ref I) .none Y.env) [])
    (hN : Y.N = [(".0" : Str), x]) (S : OneN scope x) (hsc : Y.env.scope = scope) (hcl : Y.env.cells = []) (hex : I ∈ Y.ex) (haI : a ≠ I) (hIt : t ≠ I) (hpn : Y.pn = []) (hxe : Y.xe = fun _ _ => False)
    (hel : PE Y elt te) (hT : SqT Y.K Y.H_0 t xs) (hgo : ∀ v, go.data ≠ .cell v) {H : Hp} {s₀ s : Shared} (hG : GInv Y a I t go 0 H s) (hr : rdAll te xs H Q) :
    Seg (model Y.prog Y.w) Aw (gEnd Y Q) (gProt Y a I t go Q) xs.length s₀ (.compStart (.GeneratorExp elt [⟨.Name x px, iter, [], 0⟩] scope pos) 0 (.ref I) .none Y.env)
      ((model Y.prog Y.w).den (.compStart (.GeneratorExp elt [⟨.Name x px, iter, [], 0⟩] scope pos) 0 (.ref I) .none Y.env)) [] s := by
  have go1 : ∀ s₀, Seg (model Y.prog Y.w) Aw (gEnd Y Q) (gProt Y a I t go Q) xs.length s₀ (.compStart (.GeneratorExp elt [⟨.Name x px, iter, [], 0⟩] scope pos) 0 (.ref I) .none Y.env) (.pure (.again (.compLoop (.GeneratorExp elt [⟨.Name x px, iter, [], 0⟩] scope pos) 0 (.ref I) .none Y.env))) [] s := fun s₀ => by
    apply seg_again rfl
    exact seg_allLoop hA hY hN S hsc hcl hex haI hIt hpn hxe hel hT hgo xs 0 H s₀ s (List.drop_zero ..) hG hr
  obtain ⟨σ, io, l, z, hc, hdd, J⟩ := hG
  obtain ⟨its, rv, tp, _⟩ := J.tuple (Inv.sqt J hT)
  have pI := J.pin (I, io) (List.mem_append_right _ (by simp))
  have hh : (Aw.over (.compStart (.GeneratorExp elt [⟨.Name x px, iter, [], 0⟩] scope pos) 0 (.ref I) .none Y.env) []).handled = none := hA
  have W := Walks.tuple (prog := Y.prog) (w := Y.w) hh I t hIt its.toArray
  have again := go1 s₀
  show Seg _ Aw _ _ _ s₀ _ ((compStart _ 0 (.ref I) .none Y.env).onRaise (leaving Y.env)) [] s
  unfold compStart
  rw [Sem.onRaise_eq_wrap]
  apply seg_bind_wrap (m := ask)
  apply wpAny_askSetting
  split
  · exact again
  · apply seg_bind_wrap
    apply wpAny_rule
    apply seg_bind_wrap
    apply wpAny_standAt
    apply seg_bind_wrap
    exact W.self 0 s _ _ ⟨⟨io, pI.1, hc, hdd⟩, tp⟩ again
/-- the generator's own object -/
structure GenO (go : Obj) (g : Nat) : Prop where
  cls : go.cls = .type "generator"
  data : ∃ nm qn, go.data = .fields #[.int g 0, nm, qn]
  slots : go.slots = #[]
theorem GenO.at {go : Obj} {g : Nat} {h : Heap} {a : Addr} (G : GenO go g) (e : h.get? a = some go) : h.IsGen a g := by
  obtain ⟨nm, qn, d⟩ := G.data
  exact ⟨go, nm, qn, e, G.cls, d, G.slots⟩
theorem inv_gens {Y : Cx} {σ : L2.St} {H : Hp} {s s' : Shared} {pins : List (Addr × Obj)} (J : Inv Y pins σ H s) (o : s'.os = s.os) (g : AllBare s'.gens) (k : ∀ b o, s.heap.get? b = some o → s'.heap.get? b = some o) : Inv Y pins σ H s' :=
  J.call' (ch := []) o (Un.kept k) (J.hok.kept k) g fun b z => by simp at z
theorem all_loop {Y : Cx} {A : Around} {a I t : Addr} {go : Obj} {g : Nat} {R : Result → Shared → Prop} {Q : Bool → Hp → Prop} (hh : A.handled = none) (hd : A.depth < recursionLimit) (G : GenO go g)
    (fin : ∀ b σ H s, Inv Y [] σ H s → Q b H → R (.ok (.ret (.bool b))) s) :
    ∀ (n : Nat) (s : Shared), s.heap.get? a = some go → s.heap.NoLimit → (∃ gs, s.gens[g]? = some gs ∧ gs.Goes (model Y.prog Y.w) A.in1.in1 (gEnd Y Q) (gProt Y a I t go Q) n (.send .none) (s.setGen g .running)) →
      codeAny (model Y.prog Y.w) A (.builtin "all.loop" ⟨[.ref a], []⟩) R s := by
  intro n
  induction n with
  | zero =>
    intro s ha hl ⟨gs, hgs, hgo⟩
    apply codeAny_builtin F.entry_all_loop
    rw [Around.under_plainId F.plain_all_loop _]
    show wpAny _ A.in1 (pyNext (.ref a) >>= _) _ _ s
    apply wpAny_bind
    apply next_genG (A := A.in1) (F := gDone Y Q) (Er := fun _ _ => False) hh hl hd (G.at ha) hgs hgo
    · intro v s1 gs' hb hv
      obtain ⟨b, i, H, rfl, hG, hf, ht⟩ := hv
      cases b with
      | true =>
        obtain ⟨_, _, _, _, _, _, J⟩ := hG
        exact False.elim (ht rfl s1 rfl J.bare rfl)
      | false =>
        obtain ⟨σ, io, _, _, _, _, J⟩ := hG
        apply wpAny_bind
        apply wpAny_holding
        apply wpAny_truthy_bool
        apply wpAny_bind
        apply wpAny_letGo
        show wpAny _ _ (rule _ >>= _) _ _ _
        apply wpAny_bind
        apply wpAny_rule
        apply wpAny_pure
        exact fin false σ H _ (inv_gens (J.pins_of fun p hp => by simp at hp) rfl (allBare_setGen J.bare hb) fun _ _ e => e) (hf rfl)
    · intro s1 hp h' hk
      obtain ⟨σ, H, J, q⟩ := hp
      show wpAny _ _ (rule _ >>= _) _ _ _
      apply wpAny_bind
      apply wpAny_rule
      apply wpAny_pure
      exact fin true σ H _ (inv_gens J rfl (allBare_setGen J.bare rfl) hk) q
    · intro e s1 he
      exact he.elim
  | succ n ih =>
    intro s ha hl ⟨gs, hgs, hgo⟩
    have hgl : g < s.gens.size := (Array.getElem?_eq_some_iff.mp hgs).1
    apply codeAny_builtin F.entry_all_loop
    rw [Around.under_plainId F.plain_all_loop _]
    show wpAny _ A.in1 (pyNext (.ref a) >>= _) _ _ s
    apply wpAny_bind
    apply wpAny_gsz (n := g + 1) hgl
    apply next_genG (A := A.in1) (F := gDone Y Q) (Er := fun _ _ => False) hh hl hd (G.at ha) hgs hgo
    · intro v s1 gs' hb hv hsz
      obtain ⟨b, i, H, rfl, hG, hf, ht⟩ := hv
      have hG' := hG
      obtain ⟨σ, io, _, _, _, _, J⟩ := hG'
      have pa := J.pin (a, go) (List.mem_append_right _ (by simp))
      apply wpAny_bind
      apply wpAny_holding
      apply wpAny_truthy_bool
      apply wpAny_bind
      apply wpAny_letGo
      cases b with
      | false =>
        show wpAny _ _ (rule _ >>= _) _ _ _
        apply wpAny_bind
        apply wpAny_rule
        apply wpAny_pure
        exact fin false σ H _ (inv_gens (J.pins_of fun p hp => by simp at hp) rfl (allBare_setGen J.bare hb) fun _ _ e => e) (hf rfl)
      | true =>
        simp only [if_true]
        have hsz1 : g < s1.gens.size := by
          have q : (s1.setGen g gs').gens.size = s1.gens.size := setGen_size _ _ _
          have : g + 1 ≤ (s1.setGen g gs').gens.size := hsz
          omega
        refine wpAny_pure ⟨plainId_quiet F.plain_all_loop _, ih (s1.setGen g gs') pa.1 J.nolimit ⟨gs', setGen_at hsz1, ?_⟩⟩
        exact ht rfl _ rfl (allBare_setGen (s := s1.setGen g gs') (allBare_setGen J.bare hb) rfl) rfl
    · intro s1 hp h' hk hsz
      obtain ⟨σ, H, J, q⟩ := hp
      show wpAny _ _ (rule _ >>= _) _ _ _
      apply wpAny_bind
      apply wpAny_rule
      apply wpAny_pure
      exact fin true σ H _ (inv_gens J rfl (allBare_setGen J.bare rfl) hk) q
    · intro e s1 he
      exact he.elim
theorem clo_none {cells : List (Str × Addr)} : ∀ {ns : List (Str × NameKind)} {acc : List (Str × Addr)}, (∀ y ∈ ns, y.2 ≠ .free) → cloFrom cells ns acc = acc
  | [], _, _ => rfl
  | (n, k) :: r, acc, h => by
    have hk : k ≠ .free := h (n, k) (by simp)
    unfold cloFrom
    cases k <;> first | exact absurd rfl hk | exact clo_none fun y hy => h y (List.mem_cons_of_mem _ hy)
theorem envs_loop {elt iter : Expr} {x : Str} {px pos : Pos} {scope : Scope} {it acc : Value} {env : Env} {A : Around} {l : List Env} (h : A.frames = some l) : (A.over (.compLoop (.GeneratorExp elt [⟨.Name x px, iter, [], 0⟩] scope pos) 0 it acc env) []).frames = some (env :: l) := by
  show pushEnvs (Code.envs (.compLoop (.GeneratorExp elt [⟨.Name x px, iter, [], 0⟩] scope pos) 0 it acc env)) (pushEnvs [] A.frames) = _
  rw [h]
  rfl
theorem room_loop {k : Nat} {A : Around} {elt iter : Expr} {x : Str} {px pos : Pos} {scope : Scope} {it acc : Value} {env : Env} (r : Room (k + 1) A) : Room k (A.in1.in1.over (.compLoop (.GeneratorExp elt [⟨.Name x px, iter, [], 0⟩] scope pos) 0 it acc env) []) := by
  have h1 : (A.in1.in1.over (.compLoop (.GeneratorExp elt [⟨.Name x px, iter, [], 0⟩] scope pos) 0 it acc env) []).depth = A.in1.in1.depth + 1 := rfl
  have h2 : (A.in1.in1.over (.compLoop (.GeneratorExp elt [⟨.Name x px, iter, [], 0⟩] scope pos) 0 it acc env) []).units = A.in1.in1.units + 3 := rfl
  have h3 : A.in1.in1.depth = A.depth := rfl
  have h4 : A.in1.in1.units = A.units + 1 + 1 := rfl
  have h5 := r.dp
  have h6 := r.un
  exact ⟨r.hd, by rw [h1, h3]; omega, by rw [h2, h4]; omega⟩
section
variable {X : Cx} {pins : List (Addr × Obj)} {σ : L2.St} {H : Hp} {s : Shared}
/-- made, not begun; what its whole walk by all leaves -/
def ReadyA (X : Cx) (pins : List (Addr × Obj)) (σ : L2.St) (te : TE) (xs : List V) (H2 : Hp) (a : Addr) (s5 : Shared) : Prop :=
  ∃ (go : Obj) (g : Nat), GenO go g ∧ s5.heap.get? a = some go ∧ s5.heap.NoLimit ∧ g < s5.gens.size ∧ ∀ Q : Bool → Hp → Prop, rdAll te xs H2 Q → ∃ (Y : Cx) (I t : Addr),
    Y.prog = X.prog ∧ Y.w = X.w ∧ (∃ gs, s5.gens[g]? = some gs ∧ gs.Goes (model Y.prog Y.w) X.A.in1.in1 (gEnd Y Q) (gProt Y a I t go Q) xs.length (.send .none) (s5.setGen g .running)) ∧
    ∀ b σ' H' s', Inv Y [] σ' H' s' → Q b H' → ∃ H'', Inv X pins σ H'' s' ∧ Q b H''
theorem gen_tup {c P : Addr} {elt iter : Expr} {x : Str} {px gpos : Pos} {scope : Scope} {te ti : TE} {k : Nat} {Q' : Value → Shared → Prop} {R : List V → Hp → Prop}
    (hr : Room (k + 1) X.A) (TB : GxR.TabB X.base X.mg c P) (hcode : X.env.code = .ref c) (S : OneN scope x) (hi : PE X iter ti)
    (hel : ∀ (s : Shared) (H : Hp) (C : Addr) (code : Value) (I : Addr), Room k (X.A.in1.in1.over (.compLoop (.GeneratorExp elt [⟨.Name x px, iter, [], 0⟩] scope gpos) 0 (.ref I) .none (genEnv scope [] C code builtinsNs X.env)) []) →
      PE (gxOf X x s H (genEnv scope [] C code builtinsNs X.env) (X.A.in1.in1.over (.compLoop (.GeneratorExp elt [⟨.Name x px, iter, [], 0⟩] scope gpos) 0 (.ref I) .none (genEnv scope [] C code builtinsNs X.env)) []) I) elt te)
    (hs : ∀ v, genFold iter X.env v = pure v) (I0 : Inv X pins σ H s)
    (h : ti σ H fun v H1 => ∃ (t : Addr) (xs : List V), v = .ref t ∧ SqT X.K H1 t xs ∧ GxR.TabG H1 P ∧ ∀ H2, GxR.Tabbed P H1 H2 → R xs H2)
    (hQ : ∀ xs H2 a s5, R xs H2 → ReadyA X pins σ te xs H2 a s5 → Q' (.ref a) s5) :
    wpAny (model X.prog X.w) X.A (eval (.GeneratorExp elt [⟨.Name x px, iter, [], 0⟩] scope gpos) X.env) Q' X.xe s := by
  have hcl : closureFor scope X.env = pure [] := by
    rw [closure_ok fun y hy hf => absurd hf (S.free y hy), clo_none S.free]
  have hroom : X.A.depth < recursionLimit := by
    have := hr.dp
    omega
  apply wpAny_GeneratorExp_make S.co hcl S.cell S.dot S.kind hroom ?_ hs
  apply thn (hi.run pins s σ H _ I0 h)
  rintro xv s1 ⟨v, H1, I1, r1, t, xs, rfl, hT, ⟨tb, hP, ht⟩, q1⟩
  obtain rfl : xv = Value.ref t := r1
  obtain ⟨its, rv, tp, _⟩ := I1.tuple hT
  apply wpAny_pyIter_tuple tp
  generalize ho : ({ cls := .type "tuple_iterator", data := .fields #[.ref t, .int 0 0] } : Obj) = it0
  have old : ∀ b u, s1.heap.get? b = some u → (s1.heap.push it0).get? b = some u := fun b u e => Heap.get?_push_of_some _ e
  have here : (s1.heap.push it0).get? s1.heap.objs.size = some it0 := by
    subst ho
    exact Heap.get?_push_size _ rfl
  have tabS : s1.heap.get? P = some { cls := .none, data := .fields tb } := I1.hok P _ hP
  have Plt : P < s1.heap.objs.size := Heap.lt_size tabS
  have lim2 : (s1.heap.push it0).NoLimit := I1.nolimit.push it0
  refine ⟨lim2, ?_⟩
  refine gcode (s2 := { s1 with heap := s1.heap.push it0 }) hcode (TB.code.keeps fun b u e => old b u (I1.bk b u e)) (old _ _ tabS) ht fun code h3 n3 tb3 hx hsz hP3 hmore ht3 => ?_
  obtain ⟨bm, ob, e1, e2, e3, e4, e5, e6, e7, e8⟩ := TB.bm
  have keep3 : ∀ b u, b ≠ P → s1.heap.get? b = some u → h3.get? b = some u := fun b u hb e => hx b u hb (old b u e)
  have nP : s1.heap.objs.size ≠ P := Nat.ne_of_gt Plt
  have here3 : h3.get? s1.heap.objs.size = some it0 := hx _ _ nP here
  have sz3 : s1.heap.objs.size < h3.objs.size := Heap.lt_size here3
  have cP : cStatics ≠ P := fun e => by
    obtain ⟨_, hns, _⟩ := I1.nolimit
    obtain ⟨o', es, ep, ho', hd', _⟩ := hns
    rw [e, tabS] at ho'
    cases ho'
    cases hd'
  apply wpAny_builtinsFor (m := X.mg) (by rw [I1.ok.glob]; exact ((I1.mod.glob.keeps I1.bk).push it0).extBut hx TB.gP) e1 e2 (keep3 _ _ e4 (I1.bk _ _ e5)) e6 e7 e8
  intro h5 hns hsb
  obtain ⟨more, em⟩ := hmore
  subst em
  have I4 := GxR.inv_tab (more := more) (h' := h3) (g' := s1.gens) (d' := s1.drawn) (t' := n3) I1 hP keep3 hP3 I1.bare
  have H2t : (upd H1 P (.tbl (tb ++ more))) s1.heap.objs.size = none := by
    rw [upd_ne nP]
    exact I1.hok.fresh (Nat.le_refl _)
  have T2 : SqT X.K (upd H1 P (.tbl (tb ++ more))) t xs := by
    have ne : ∀ u, H1 t = some u → (∀ q, u ≠ .tbl q) → t ≠ P := fun u e q z => by
      rw [z, hP] at e
      exact q tb (Option.some.inj e).symm
    rcases hT with (z | ⟨o, z⟩) | z
    · exact .inl (.inl (by rw [upd_ne (ne _ z fun q y => by cases y)]; exact z))
    · exact .inl (.inr ⟨o, by rw [upd_ne (ne _ z fun q y => by cases y)]; exact z⟩)
    · exact .inr z
  generalize hgo : ({ cls := .type "generator", data := .fields #[.int s1.gens.size 0, .str "<genexpr>" (n3 + 1), .str (X.env.qual ++ "<genexpr>") (n3 + 1 + 1)] } : Obj) = go
  have GO : GenO go s1.gens.size := by
    subst hgo
    exact ⟨rfl, ⟨_, _, rfl⟩, rfl⟩
  have k5 : ∀ b u, h3.get? b = some u → h5.get? b = some u := fun b u e => hsb.extBut b u (Nat.ne_of_lt (Heap.lt_size e)) (Heap.get?_push_of_some _ e)
  have k6 : ∀ b u, h3.get? b = some u → (h5.push go).get? b = some u := fun b u e => Heap.get?_push_of_some _ (k5 b u e)
  have sz5 : h5.objs.size = h3.objs.size + 1 := by rw [hsb.1, Heap.size_push]
  have hga : (h5.push go).get? h5.objs.size = some go := by
    subst hgo
    exact Heap.get?_push_size _ rfl
  refine hQ xs (upd H1 P (.tbl (tb ++ more))) _ _ (q1 _ ⟨⟨_, upd_same, ht3⟩, fun b hb => upd_ne hb⟩) ⟨go, s1.gens.size, GO, hga, I4.nolimit.keeps k6, by show _ < (s1.gens.push _).size; rw [Array.size_push]; exact Nat.lt_succ_self _, fun Q hrd => ?_⟩
  have tlt : t < s1.heap.objs.size := by
    obtain ⟨o, e, _⟩ := _root_.id tp
    exact Heap.lt_size e
  have hIt : t ≠ s1.heap.objs.size := Nat.ne_of_lt tlt
  have haI : h5.objs.size ≠ s1.heap.objs.size := by
    rw [sz5]
    omega
  have nst : ∀ b, s1.heap.objs.size ≤ b → b ∉ frs X.stack := fun b hb hm => by
    rcases List.mem_cons.mp (I1.stkSub b hm) with z | z
    · rw [z] at hb
      exact absurd (Nat.lt_of_lt_of_le I1.lt hb) (Nat.lt_irrefl _)
    · exact I1.nofs hb z
  have itd : it0.cls = .type "tuple_iterator" ∧ it0.data = .fields #[.ref t, .int ((0 : Nat) : Int) 0] := by
    subst ho
    exact ⟨rfl, rfl⟩
  have god : ∀ v, go.data ≠ .cell v := fun v q => by
    obtain ⟨nm, qn, d⟩ := GO.data
    rw [d] at q
    cases q
  have KY : (gxOf X x { s1 with heap := h3, gens := s1.gens, drawn := s1.drawn, toks := n3 } (upd H1 P (.tbl (tb ++ more))) (genEnv scope [] h3.objs.size code builtinsNs X.env)
      (X.A.in1.in1.over (.compLoop (.GeneratorExp elt [⟨.Name x px, iter, [], 0⟩] scope gpos) 0 (.ref s1.heap.objs.size) .none (genEnv scope [] h3.objs.size code builtinsNs X.env)) []) s1.heap.objs.size).Ok := by
    refine ⟨I4.ok.mod, S.kind, I4.ok.glob, rfl, Nat.le_refl _, fun y z c e _ => (by cases e), fun y hy => ?_, fun y c _ e => (by cases e), fun _ => hr.hd, envs_loop I4.ok.frames, .inr ⟨rfl, rfl⟩, fun b hb => ?_, fun b o e => I4.bs b o e, Nat.le_trans I4.ok.bsz I4.sz, fun b o e hb => ?_, fun b hb => ?_, I4.stack, I4.stkFree⟩
    · have hy' : scope.names.lookup y = some .cell ∨ scope.names.lookup y = some .free := hy
      rcases hy' with z | z
      · exact absurd rfl (S.cell _ (PySem.mem_of_lookup z))
      · exact absurd rfl (S.free _ (PySem.mem_of_lookup z))
    · rw [List.mem_singleton.mp hb]
      exact ⟨Nat.ne_of_lt sz3, fun y c e => (by cases e)⟩
    · rw [List.mem_singleton.mp hb] at e
      exact absurd (Heap.lt_size (I1.bk _ _ e)) (Nat.lt_irrefl _)
    · rw [List.mem_singleton.mp hb]
      exact nst _ (Nat.le_refl _)
  refine ⟨gxOf X x { s1 with heap := h3, gens := s1.gens, drawn := s1.drawn, toks := n3 } (upd H1 P (.tbl (tb ++ more))) (genEnv scope [] h3.objs.size code builtinsNs X.env)
      (X.A.in1.in1.over (.compLoop (.GeneratorExp elt [⟨.Name x px, iter, [], 0⟩] scope gpos) 0 (.ref s1.heap.objs.size) .none (genEnv scope [] h3.objs.size code builtinsNs X.env)) []) s1.heap.objs.size, s1.heap.objs.size, t, rfl, rfl,
    ⟨_, Array.getElem?_push_size .., rfl, seg_allStart (Aw := X.A.in1.in1) hr.hd rfl rfl S rfl rfl (by show _ ∈ [_]; simp) haI hIt rfl rfl (hel _ _ _ _ _ (room_loop hr)) T2 god ⟨[none, none], it0, rfl, rfl, itd.1, itd.2, ?_⟩ hrd⟩, fun b σ' H' s' J q => ⟨H', I4.call' (ch := [s1.heap.objs.size]) J.os J.base J.hok J.bare fun b hb => ?_, q⟩⟩
  · refine ⟨KY, rfl, allBare_setGen (AllBare.push I1.bare rfl) rfl, Un.kept k6, ⟨_, hns.push _, fun i y v _ h2 _ => ?_⟩, fun y c e => (by cases e), I4.hok.fresh (Nat.le_refl _), fun y c e => (by cases e), fun p hp => ?_, I4.hok.kept k6, rfl⟩
    · match i, h2 with
      | 0, h2 => cases h2
      | 1, h2 => cases h2
      | n + 2, h2 => cases h2
    · rcases List.mem_cons.mp (show p ∈ [(h5.objs.size, go), (s1.heap.objs.size, it0)] from hp) with rfl | hp
      · exact ⟨hga, I4.hok.fresh (show h3.objs.size ≤ h5.objs.size by omega), (by show h5.objs.size ≠ h3.objs.size; omega), nst _ (show s1.heap.objs.size ≤ h5.objs.size by omega), god⟩
      · rw [List.mem_singleton] at hp
        subst hp
        exact ⟨k6 _ _ here3, H2t, Nat.ne_of_lt sz3, nst _ (Nat.le_refl _), fun v q => by rw [itd.2] at q; cases q⟩
  · rw [List.mem_singleton.mp hb]
    refine ⟨.inr I1.sz, Nat.ne_of_gt I1.lt, fun y c e z => ?_, fun p hp z => ?_⟩
    · obtain ⟨v, o, e2, _⟩ := I1.cell y c e
      have := Heap.lt_size e2
      rw [z] at this
      exact Nat.lt_irrefl _ this
    · have := Heap.lt_size (I1.pin p hp).1
      rw [z] at this
      exact Nat.lt_irrefl _ this
end
section
variable {X : Cx}
/-- all(e for x in t), t a tuple: the def's table may have grown when the first is asked -/
def tAllT (K : PySem.W.Frag) (P : Addr) (te ti : TE) : TE := fun σ H Q => ti σ H fun v H1 =>
  ∃ (t : Addr) (xs : List V), v = .ref t ∧ SqT K H1 t xs ∧ GxR.TabG H1 P ∧ ∀ H2, GxR.Tabbed P H1 H2 → rdAll te xs H2 fun b H' => Q (.bl b) H'
theorem pe_allT {c P : Addr} {elt iter : Expr} {x : Str} {px p pos gpos : Pos} {scope : Scope} {te ti : TE} {k : Nat}
    (hr : Room (k + 1) X.A) (hg : Gl X "all") (hm : X.mg "all" = none) (TB : GxR.TabB X.base X.mg c P) (hcode : X.env.code = .ref c) (S : OneN scope x) (hi : PE X iter ti)
    (hel : ∀ (s : Shared) (H : Hp) (C : Addr) (code : Value) (I : Addr), Room k (X.A.in1.in1.over (.compLoop (.GeneratorExp elt [⟨.Name x px, iter, [], 0⟩] scope gpos) 0 (.ref I) .none (genEnv scope [] C code builtinsNs X.env)) []) →
      PE (gxOf X x s H (genEnv scope [] C code builtinsNs X.env) (X.A.in1.in1.over (.compLoop (.GeneratorExp elt [⟨.Name x px, iter, [], 0⟩] scope gpos) 0 (.ref I) .none (genEnv scope [] C code builtinsNs X.env)) []) I) elt te)
    (hs : ∀ v, genFold iter X.env v = pure v) (hb : bootBuiltins "all" = some (.builtin "all") := by decide +kernel)
    (he : starEach [.GeneratorExp elt [⟨.Name x px, iter, [], 0⟩] scope gpos] X.env = (false, eval (.GeneratorExp elt [⟨.Name x px, iter, [], 0⟩] scope gpos) X.env) :: starEach [] X.env := by rfl) :
    PE X (.Call (.Name "all" p) [.GeneratorExp elt [⟨.Name x px, iter, [], 0⟩] scope gpos] [] pos) (tAllT X.K P te ti) := by
  constructor
  intro pins s σ H Q I want
  have hroom : X.A.depth < recursionLimit := by
    have := hr.dp
    omega
  apply wpAny_Call_Name_kw (ld_blt I hg hm hb ?_)
  apply PyProof.Rows.callWith_builtin1 ?_ he (by rfl)
  rw [he]
  show wpAny _ _ (spliced ((false, eval (.GeneratorExp elt [⟨.Name x px, iter, [], 0⟩] scope gpos) X.env) :: backTo pos (starEach [] X.env))) _ _ s
  apply Calls.spliced_cons (gen_tup (R := fun xs H2 => rdAll te xs H2 fun b H' => Q (.bl b) H') hr TB hcode S hi hel hs I want ?_)
  intro xs H2 a s5 k5 ready
  obtain ⟨go, g, GO, ha, lim, _, fin⟩ := ready
  obtain ⟨Y, I', t, eP, eW, hgo, back⟩ := fin _ k5
  apply Calls.spliced_nil
  apply call_function_tree F.kind_all F.plain_all F.entry_all (F.args_all1 _)
  unfold Builtin.«all»
  refine wpAny_bind (m := oneArg "all" _) (wpAny_pure ?_)
  refine wpAny_bind (wpAny_pyIter_gen (GO.at ha) ?_)
  refine wpAny_pure ⟨plainId_quiet F.plain_all_loop _, ?_⟩
  have key := all_loop (Y := Y) (A := X.A) (R := fun r s' => match r with | .ok (.ret v) => EP X pins σ Q v s' | .ok _ => False | .error e => X.xe e s') hr.hd hroom GO (fun b σ' H' s' J q => by
    obtain ⟨H'', J2, q2⟩ := back b σ' H' s' J q
    exact ⟨.bl b, H'', J2, rfl, q2⟩) xs.length s5 ha lim hgo
  rw [eP, eW] at key
  exact key
end
/-- for x in (a if c else b) -/
def iIf (tc : TT) (wa wb : TI) : TI := fun σ H R => tc σ H fun b H1 => if b = true then wa σ H1 R else wb σ H1 R
theorem pi_if {X : Cx} {tg c a b : Expr} {pos : Pos} {tc : TT} {wa wb : TI} (hc : PT X c tc) (ha : PI X tg a wa) (hb : PI X tg b wb) : PI X tg (.IfExp c a b pos) (iIf tc wa wb) := by
  constructor
  intro pins s σ H R I h
  apply wpAny_IfExp
  apply thn (hc.run pins s σ H _ I h)
  rintro d s1 ⟨H1, I1, q1⟩
  cases d with
  | true => exact ha.run pins s1 σ H1 R I1 q1
  | false => exact hb.run pins s1 σ H1 R I1 q1
end Jf
set_option Elab.async false
set_option linter.all false
set_option maxRecDepth 100000
set_option maxHeartbeats 4000000
namespace PySem.W
open Lean Elab Tactic Meta PySem PySem.Calls PyProof.Rows Builtin Builtin.ObjectAttr Builtin.Getset_descriptor PyProof.V PySem.Spec
section
variable {prog : Program} {w : World} {A : Around} {E : Value → Shared → Prop} {s : Shared} {K : Frag} {x C : Addr} {ox : Obj} {od : Option Obj} {R : Result → Shared → Prop}
/-- an attribute of an error of the program's own class is asked of BaseException's own reader -/
theorem jf_asks {name : Str} {gt : Option Value} {ex : Bool} {Q : Value → Shared → Prop} (X : K.In s.heap) (I : InstAt s.heap x ox C od)
    (h1 : findIn K (.ref C) "__getattribute__" = some (some (.builtin "BaseException.__getattribute__"))) (h2 : findIn K (.ref C) "__getattr__" = some gt) (h3 : subIn K (.ref C) (.type "BaseException") = some true)
    (go : ∀ B : Around, wpAny (model prog w) B (Builtin.«object.__getattribute__» ⟨[.ref x, .str name s.toks], []⟩) (fun f s' => ∃ v, f = .done (.ret v) ∧ handedIn v = true ∧ Q v s') (fun _ _ => False) { s with toks := s.toks + 1 }) :
    wpAny (model prog w) A (getAttr (.ref x) name ex) Q E s := by
  have same : (onTheHeap (Value.ref C) && (.builtin "BaseException.__getattribute__" : Value) == .builtin "object.__getattribute__") = false := by
    rw [show ((.builtin "BaseException.__getattribute__" : Value) == .builtin "object.__getattribute__") = false from by decide +kernel]
    rfl
  have ofB : Looks (model prog w) s.heap (isInstance (.ref x) (.type "BaseException")) true := (I.type (M := model prog w)).andThen (looks_subIn X h3)
  have byB := PySem.F.excAttr_ValueError.ga
  unfold getAttr getAttrBy
  refine wpAny_bind (wpAny_mkText (wpAny_holding (wpAny_bind ((I.type (M := model prog w)).at (wpAny_bind ((looks_findIn X h1).at ?_))))))
  dsimp only
  rw [same, if_neg (by decide)]
  unfold getAttrByItsOwn hookBefore
  refine wpAny_bind ?_
  rw [if_pos (by rfl : onTheHeap (Value.ref C) = true)]
  refine (looks_findIn X h2).at (wpAny_bind (wpAny_attempt (wpAny_holding ?_)))
  unfold callGetattribute
  rw [if_neg (by cases ex <;> exact Bool.false_ne_true : ¬ (ex && onTheHeap (Value.builtin "BaseException.__getattribute__")) = true)]
  unfold boundAndCalled
  rw [byB.bind (.ref x)]
  refine wpAny_bind (wpAny_pure (wpAny_call (codeAny_call_builtin byB.plain PySem.F.entry_bexc_ga ?_)))
  refine check_slot (s := { s with toks := s.toks + 1 }) (i := "BaseException.__getattribute__") (owner := "BaseException") (n := "__getattribute__") (by decide +kernel) (by decide +kernel) ofB (PySem.F.args_bexc_ga (.ref x) (.str name s.toks)) ?_
  refine wpAny_mono (go _) (fun f s' hf => ?_) fun _ _ z => z.elim
  obtain ⟨v, rfl, hv, q⟩ := hf
  exact handed_on hv q
/-- its class -/
theorem jf_classX {gt : Option Value} {expr : Bool} {Q : Value → Shared → Prop} (X : K.In s.heap) (I : InstAt s.heap x ox C od) (h1 : findIn K (.ref C) "__getattribute__" = some (some (.builtin "BaseException.__getattribute__"))) (h2 : findIn K (.ref C) "__getattr__" = some gt)
    (h3 : subIn K (.ref C) (.type "BaseException") = some true) (h4 : findObj K C od "__class__" = some (.bind (.builtin "getset_descriptor.__get__") (.builtin "object.__class__"))) (h5 : mroIn K C (.type "object") = some true)
    (q : Q (.ref C) { s with toks := s.toks + 1 }) : wpAny (model prog w) A (getAttr (.ref x) "__class__" expr) Q E s := by
  refine jf_asks X I h1 h2 h3 fun B => ?_
  have found := looks_find (M := model prog w) X I h4
  unfold Builtin.«object.__getattribute__»
  refine wpAny_bind (wpAny_of_eq (a := ((Value.ref x : Value), [Value.str "__class__" s.toks])) (by first | rfl | (simp only [slotArgs]; rfl)) (wpAny_bind (wpAny_pure (wpAny_bind ((I.type (M := model prog w)).at (wpAny_bind (found.at ?_)))))))
  have J : K.In ({ s with toks := s.toks + 1 } : Shared).heap := X
  refine wpAny_bind (wpAny_holding (wpAny_call (class_get (s := { s with toks := s.toks + 1 }) (ox := ox) (od := od) J I h5 (wpAny_pure ⟨_, rfl, rfl, q⟩))))
theorem jf_dga (d tp : Value) (C : Addr) : descrGetArgs ⟨[d, .ref C, tp], []⟩ = pure (d, some (.ref C), given tp) := by rfl
/-- c.__name__, what its slot keeps -/
theorem jf_name_get {tp : Value} {o : Obj} {n : Str} {tk : Tok} (X : K.In s.heap) (ht : typeIn K (.ref C) = some (.type "type")) (hl : K.lookup C = some o) (hs : o.slots[2]? = some (some (.str n tk))) (h : R (.ok (.ret (.str n tk))) s) :
    codeAny (model prog w) A (.call (.builtin "getset_descriptor.__get__") ⟨[.builtin "type.__name__", .ref C, tp], []⟩) R s := by
  obtain ⟨hh, g, dr, t, os⟩ := s
  have L0 : Looks (model prog w) hh (typeOf (.ref C)) (.type "type") := looks_typeIn X ht
  have L1 : Looks (model prog w) hh (isSubtype (.type "type") (.type "type")) true := Looks.of_pure (by rw [isSubtype_type]; kernel_rfl)
  refine codeAny_call_builtin KF.slot_gs.plain KF.entry_gs (KF.slot_gs.check _ _ _ _ _ _ _ _ ktyn_type (KF.args_gs _ _ _) ?_)
  unfold Builtin.«getset_descriptor.__get__» descrGet
  rw [jf_dga]
  refine wpAny_bind (wpAny_pure ?_)
  unfold descrGetter descrCheckInstance descrNameAndClass isInstance
  simp only [ktyn_owner]
  repeat lk
  refine ⟨Code.quiet_builtin _ (by decide +kernel), codeAny_builtin ktyn_entry ?_⟩
  unfold Builtin.«type.__name__»
  dsimp only
  unfold Builtin.keptObject slotAt
  dsimp only
  refine wpAny_bind (wpAny_bind (wpAny_bind (wpAny_loadPart (X _ _ hl) ?_)))
  refine wpAny_pure (wpAny_pure ?_)
  rw [hs]
  exact wpAny_pure h
end
end PySem.W
namespace Jf
open PySem PySem.Spec PyProof.Rows L2 Evl
/-- what is asked of a class, so that its name is read -/
structure NmC (K : PySem.W.Frag) (C : Addr) (nm : Str) : Prop where
  ga : PySem.W.findIn K (.ref C) "__getattribute__" = some (some (.builtin "BaseException.__getattribute__"))
  gg : PySem.W.findIn K (.ref C) "__getattr__" = some none
  ex : PySem.W.subIn K (.ref C) (.type "BaseException") = some true
  cl : (PySem.W.clsIn K C).isSome = true
  kc : PySem.W.findIn K (.ref C) "__class__" = some (some (.builtin "object.__class__"))
  sp : PySem.W.specialIn K (.builtin "object.__class__") "__get__" = some (some (.builtin "getset_descriptor.__get__"))
  tk : PySem.W.takesIn K (.builtin "object.__class__") = some true
  mo : PySem.W.mroIn K C (.type "object") = some true
  rd : PySem.W.readsIn K C (.type "type") = true
  fd : PySem.W.findCls K (.ref C) (.type "type") "__name__" = some (.get (.builtin "getset_descriptor.__get__") (.builtin "type.__name__") (.ref C) (.type "type"))
  ty : PySem.W.typeIn K (.ref C) = some (.type "type")
  sl : ∃ o t, K.lookup C = some o ∧ o.slots[2]? = some (some (.str nm t))
/-- e.__class__.__name__ -/
def tNm (K : PySem.W.Frag) (te : TE) : TE := fun σ H Q => te σ H fun x H1 => ∃ (a C dx : Addr) (fs : List (Str × V)) (nm : Str), x = .ref a ∧ NmC K C nm ∧ H1 a = some (exo a C (some dx)) ∧ H1 dx = some (exd dx fs) ∧ Q (.str nm) H1
theorem pe_nm {X : Cx} {e : Expr} {te : TE} {p1 pos : Pos} (he : PE X e te) (hb1 : attributeBase e "__class__" X.env (eval e X.env) = eval e X.env := by rfl)
    (hb : attributeBase (.Attribute e "__class__" p1) "__name__" X.env (eval (.Attribute e "__class__" p1) X.env) = eval (.Attribute e "__class__" p1) X.env := by rfl) : PE X (.Attribute (.Attribute e "__class__" p1) "__name__" pos) (tNm X.K te) := by
  refine ⟨fun pins s σ H Q I h => ?_⟩
  refine attr_of hb (attr_of hb1 (thn (he.run pins s σ H _ I h) fun u s1 hh => ?_))
  obtain ⟨x, H1, I1, rx, a, C, dx, fs, nm, ex, T, ea, ed, q⟩ := hh
  subst ex
  obtain rfl : u = Value.ref a := rx
  obtain ⟨t1, ho⟩ := exo_at I1.hok ea
  obtain ⟨mA, hns, hr⟩ := exd_at I1.hok ed
  obtain ⟨od, hod, hl⟩ := lookIn_ns hns
  have J : PySem.W.InstAt s1.heap a { cls := .ref C, dict := some dx, data := .fields #[.ref t1, .none, .none, .none, .bool false, .none] } C (some od) := ⟨ho, rfl, rfl, hod⟩
  refine PySem.W.jf_classX I1.kIn J T.ga T.gg T.ex (PySem.W.findObj_dataE T.cl T.kc T.sp T.tk) T.mo ?_
  obtain ⟨o, t, e1, e2⟩ := T.sl
  have I2 := I1.tok (s1.toks + 1)
  have I3 := I1.tok (s1.toks + 1 + 1)
  refine PySem.W.cls_bind (s := { s1 with toks := s1.toks + 1 }) I2.kIn T.rd T.fd (wpAny_call (PySem.W.jf_name_get (s := { s1 with toks := s1.toks + 1 + 1 }) I3.kIn T.ty e1 e2 ?_))
  refine PySem.W.handed_on rfl ?_
  exact ⟨.str nm, H1, I3, ⟨t, rfl⟩, q⟩
end Jf
set_option Elab.async false
set_option linter.all false
set_option maxRecDepth 100000
set_option maxHeartbeats 4000000
namespace Jf
open PySem PySem.Spec PyProof.Rows L2 Evl
/-! ### error classes right under one class over ValueError, each with an `__init__` of its own that calls that one's -/
def clsOk (K : PySem.W.Frag) (C CM : Addr) (nm : Str) : Bool := match K.lookup C with
  | some ⟨.type "type", _, .cls cd, sl⟩ => (match sl.toList with
    | [_, _, _, _, some (.builtin n), _] => decide (n = "ValueError.__new__") && (decide (cd.name = nm) && (decide (cd.mro = [.ref C, .ref CM, .type "ValueError", .type "Exception", .type "BaseException", .type "object"]) && (decide (cd.hasDict = true) && decide (cd.hasDel = false))))
    | _ => false)
  | _ => false
/-- its name is read -/
def fdB (K : PySem.W.Frag) (C : Addr) : Bool := match PySem.W.findCls K (.ref C) (.type "type") "__name__" with
  | some (.get (.builtin g) (.builtin a) (.ref D) (.type t)) => decide (g = "getset_descriptor.__get__") && (decide (a = "type.__name__") && (decide (D = C) && decide (t = "type")))
  | _ => false
def slB (K : PySem.W.Frag) (C : Addr) (nm : Str) : Bool := match K.lookup C with
  | some o => (match o.slots[2]? with
    | some (some (Value.str n _)) => decide (n = nm)
    | _ => false)
  | none => false
def nmB (K : PySem.W.Frag) (C : Addr) (nm : Str) : Bool := PySem.W.readsIn K C (.type "type") && (fdB K C && (slB K C nm && decide (PySem.W.findIn K (.ref C) "kind" = some none)))
theorem fd_ok {K : PySem.W.Frag} {C : Addr} (h : fdB K C = true) : PySem.W.findCls K (.ref C) (.type "type") "__name__" = some (.get (.builtin "getset_descriptor.__get__") (.builtin "type.__name__") (.ref C) (.type "type")) := by
  unfold fdB at h
  split at h
  · rename_i g a D t e
    simp only [Bool.and_eq_true, decide_eq_true_eq] at h
    obtain ⟨rfl, rfl, rfl, rfl⟩ := h
    exact e
  · cases h
theorem sl_ok {K : PySem.W.Frag} {C : Addr} {nm : Str} (h : slB K C nm = true) : ∃ o t, K.lookup C = some o ∧ o.slots[2]? = some (some (.str nm t)) := by
  unfold slB at h
  split at h
  · rename_i o e
    split at h
    · rename_i n t e2
      simp only [decide_eq_true_eq] at h
      subst h
      exact ⟨o, t, e, e2⟩
    · cases h
  · cases h
/-- all that is asked of a class, as one truth -/
def errB (K : PySem.W.Frag) (C CM f : Addr) (nm : Str) : Bool :=
  nmB K C nm && (clsOk K C CM nm && (decide (PySem.W.findIn K (.ref C) "__setattr__" = some (some (.builtin "object.__setattr__"))) && (decide (PySem.W.subIn K (.ref C) (.type "BaseException") = some true) && (decide (PySem.W.typeIn K (.ref C) = some (.type "type")) &&
  (PySem.W.keepIn K (.ref C) && (decide (PySem.W.findIn K (.ref C) "__init__" = some (some (.ref f))) && (decide (PySem.W.typeIn K (.ref f) = some (.type "function")) && (decide (PySem.W.findIn K (.ref C) "value" = some none) &&
  (decide (PySem.W.findIn K (.ref C) "__getattribute__" = some (some (.builtin "BaseException.__getattribute__"))) && (decide (PySem.W.findIn K (.ref C) "__getattr__" = some none) && (PySem.W.hasDictIn K C &&
  (decide (PySem.W.findIn K (.ref C) "__class__" = some (some (.builtin "object.__class__"))) && (decide (PySem.W.specialIn K (.builtin "object.__class__") "__get__" = some (some (.builtin "getset_descriptor.__get__"))) && (decide (PySem.W.takesIn K (.builtin "object.__class__") = some true) &&
  (decide (PySem.W.mroIn K C (.type "object") = some true) && (decide (PySem.W.exmOne K (.ref C) (.ref CM) = some true) && !(C == CM)))))))))))))))))
structure ErrX (K : PySem.W.Frag) (C CM f : Addr) (nm : Str) : Prop where
  oex : OexC K C
  i : PySem.W.findIn K (.ref C) "__init__" = some (some (.ref f))
  t : PySem.W.typeIn K (.ref f) = some (.type "function")
  noV : PySem.W.findIn K (.ref C) "value" = some none
  ec : ErrC K C
  xf : XfC K C
  named : ∃ cd, PySem.W.clsIn K C = some cd ∧ cd.name = nm ∧ cd.mro = [.ref C, .ref CM, .type "ValueError", .type "Exception", .type "BaseException", .type "object"]
  exm : PySem.W.exmOne K (.ref C) (.ref CM) = some true
  ty : PySem.W.typeIn K (.ref C) = some (.type "type")
  neM : C ≠ CM
  nm : NmC K C nm
  noK : PySem.W.findIn K (.ref C) "kind" = some none
theorem cls_ok {K : PySem.W.Frag} {C CM : Addr} {nm : Str} (h : clsOk K C CM nm = true) : (∃ q N bs bm sn sub ab col dd k0 k1 k2 k3 k5, K.lookup C = some (excClassObj nm q C N bs bm true sn sub ab col dd k0 k1 k2 k3 k5 "ValueError.__new__") ∧ PySem.HandSPX.refsVE bm = true) ∧
    ∃ cd, PySem.W.clsIn K C = some cd ∧ cd.name = nm ∧ cd.mro = [.ref C, .ref CM, .type "ValueError", .type "Exception", .type "BaseException", .type "object"] := by
  unfold clsOk at h
  split at h
  · rename_i dd cd sl ho
    split at h
    · rename_i k0 k1 k2 k3 n k5 hs
      simp only [Bool.and_eq_true, decide_eq_true_eq] at h
      obtain ⟨rfl, h1, h2, h3, h4⟩ := h
      obtain ⟨nm', bs, mro, ns, qn, hd, sn, sub, ab, col, del⟩ := cd
      dsimp only at h1 h2 h3 h4
      subst h1 h2 h3 h4
      have hsl : sl = #[k0, k1, k2, k3, some (.builtin "ValueError.__new__"), k5] := by
        obtain ⟨l⟩ := sl
        simp only at hs
        rw [hs]
      subst hsl
      exact ⟨⟨qn, ns, bs, [.ref CM, .type "ValueError", .type "Exception", .type "BaseException", .type "object"], sn, sub, ab, col, dd, k0, k1, k2, k3, k5, ho, rfl⟩, _, by unfold PySem.W.clsIn; rw [ho], rfl, rfl⟩
    · cases h
  · cases h
theorem err_ok {K : PySem.W.Frag} {C CM f : Addr} {nm : Str} (h : errB K C CM f nm = true) : ErrX K C CM f nm := by
  unfold errB at h
  simp only [Bool.and_eq_true, decide_eq_true_eq, Bool.not_eq_true', beq_eq_false_iff_ne] at h
  obtain ⟨h0, h1, sa, ex, ty, kp, hi, ht, nv, ga, gg, hd, kc, sp, tk, mo, em, nM⟩ := h
  obtain ⟨⟨q, N, bs, bm, sn, sub, ab, col, dd, k0, k1, k2, k3, k5, hl, hr⟩, cd, hc, hn, hm⟩ := cls_ok h1
  unfold nmB at h0
  simp only [Bool.and_eq_true, decide_eq_true_eq] at h0
  refine ⟨⟨⟨nm, q, N, bs, bm, sn, sub, ab, col, dd, k0, k1, k2, k3, k5, hl, hr⟩, sa, ex, ty, kp⟩, hi, ht, nv, ⟨by rw [hc]; rfl, ga, gg, ex, hd, kc, sp, tk, mo⟩, ⟨ga, gg, ex, hd⟩, ⟨cd, hc, hn, hm⟩, em, ty, nM, ?_, ?_⟩
  · exact ⟨ga, gg, ex, by rw [hc]; rfl, kc, sp, tk, mo, h0.1, fd_ok h0.2.1, ty, sl_ok h0.2.2.1⟩
  · exact h0.2.2.2
section
variable {K : PySem.W.Frag} {C D CM f g : Addr} {nm nk : Str}
theorem kit_one (C : Addr) : PySem.W.kitOne K (.ref C) (.ref C) = some true := by
  unfold PySem.W.kitOne
  rw [if_pos (by simp)]
theorem ErrX.ne (a : ErrX K C CM f nm) (b : ErrX K D CM g nk) (h : nm ≠ nk) : C ≠ D := by
  rintro rfl
  obtain ⟨cd, h1, h2, _⟩ := a.named
  obtain ⟨ce, h3, h4, _⟩ := b.named
  rw [h1] at h3
  cases h3
  exact h (h2.symm.trans h4)
/-- isinstance by another of them -/
theorem ErrX.other (a : ErrX K C CM f nm) (b : ErrX K D CM g nk) (h : nm ≠ nk) : PySem.W.kitOne K (.ref C) (.ref D) = some false := by
  have n := a.ne b h
  obtain ⟨cd, h1, h2, h3⟩ := a.named
  obtain ⟨ce, h4, _, _⟩ := b.named
  unfold PySem.W.kitOne PySem.W.kitCls
  rw [if_neg (by simpa using n)]
  dsimp only
  rw [if_pos (by rw [h4, b.ty]; rfl)]
  show PySem.W.mroIn K C (.ref D) = some false
  unfold PySem.W.mroIn
  rw [h1, Option.bind_some, h3]
  simp [n.symm, b.neM]
theorem ErrX.off (a : ErrX K C CM f nm) (b : ErrX K D CM g nk) (n : C ≠ D) : PySem.W.kitOne K (.ref C) (.ref D) = some false := by
  obtain ⟨cd, h1, h2, h3⟩ := a.named
  obtain ⟨ce, h4, _, _⟩ := b.named
  unfold PySem.W.kitOne PySem.W.kitCls
  rw [if_neg (by simpa using n)]
  dsimp only
  rw [if_pos (by rw [h4, b.ty]; rfl)]
  show PySem.W.mroIn K C (.ref D) = some false
  unfold PySem.W.mroIn
  rw [h1, Option.bind_some, h3]
  simp [n.symm, b.neM]
theorem ErrX.self1 (a : ErrX K C CM f nm) : PySem.W.exmOne K (.ref C) (.ref C) = some true := by
  obtain ⟨cd, h1, h2, h3⟩ := a.named
  refine PySem.W.exm_ref a.ec.ex a.ec.hd a.ty ?_
  show PySem.W.mroIn K C (.ref C) = some true
  unfold PySem.W.mroIn
  rw [h1, Option.bind_some, h3]
  simp
theorem ErrX.base (a : ErrX K C CM f nm) : PySem.W.kitOne K (.ref C) (.ref CM) = some true := by
  have e := a.exm
  unfold PySem.W.exmOne at e
  split at e
  · unfold PySem.W.kitOne
    split
    · rfl
    · exact e
  · cases e
theorem ErrX.ve (a : ErrX K C CM f nm) : PySem.W.kitOne K (.ref C) (.type "ValueError") = some true := by
  obtain ⟨cd, h1, h2, h3⟩ := a.named
  unfold PySem.W.kitOne PySem.W.kitCls
  rw [if_neg (by simp)]
  dsimp only
  rw [if_pos (by decide +kernel)]
  show PySem.W.mroIn K C (.type "ValueError") = some true
  unfold PySem.W.mroIn
  rw [h1, Option.bind_some, h3]
  simp
theorem ErrX.self (a : ErrX K C CM f nm) (b : ErrX K D CM g nk) (h : nm = nk) (e : C = D) : PySem.W.kitOne K (.ref C) (.ref D) = some true := e ▸ kit_one C
end
/-- what such an error keeps -/
def kd (k : Str) (v : V) : List (Str × V) := [(("kind" : Str), .str k), (("value" : Str), v)]
/-- the object made of a class, its value kept -/
def ErrAt (K : PySem.W.Frag) (C : Addr) (v : V) (x : V) (H : Hp) : Prop := ∃ a dx k, x = .ref a ∧ H a = some (exo a C (some dx)) ∧ H dx = some (exd dx (kd k v))

/-! ### making one, as a value -/
def spInit (C : Addr) : Sp := fun vs H Q _ => ∃ (a : Addr) (v : V), vs = [.ref a, v] ∧ H a = some (exo a C none) ∧
  ∀ dx k H', H dx = none → dx ≠ a → H' a = some (exo a C (some dx)) → H' dx = some (exd dx (kd k v)) → (∀ b o, b ≠ a → H b = some o → H' b = some o) → Q .non H'
/-- .. of any of those classes -/
def spInitM (K : PySem.W.Frag) : Sp := fun vs H Q _ => ∃ (C a : Addr) (v : V) (nm : Str), vs = [.ref a, v] ∧ OexC K C ∧ PySem.W.findIn K (.ref C) "value" = some none ∧ PySem.W.findIn K (.ref C) "kind" = some none ∧ NmC K C nm ∧ H a = some (exo a C none) ∧
  ∀ dx k H', H dx = none → dx ≠ a → H' a = some (exo a C (some dx)) → H' dx = some (exd dx (kd k v)) → (∀ b o, b ≠ a → H b = some o → H' b = some o) → Q .non H'
def tMkV (C : Addr) (sp : Sp) (ta : TA) : TE := fun σ H Q => ta σ H fun vs H1 => vs.length ≤ 1000 ∧ ∀ a, H1 a = none → sp (.ref a :: vs) (upd H1 a (exo a C none)) (fun v H2 => v = .non ∧ Q (.ref a) H2) (fun _ _ _ => False)
section
variable {X : Cx} {e : Expr} {es : List Expr} {ta : TA} {x m : Str} {p p1 p2 pos : Pos} {k : Nat} {fd : FuncData} {ps : List Str} {sp : Sp}
/-- C(e, ..) -/
theorem pe_mkv {CX : CXT} {C fI : Addr} (T : OexC X.K C) (iC : PySem.W.findIn X.K (.ref C) "__init__" = some (some (.ref fI))) (tI : PySem.W.typeIn X.K (.ref fI) = some (.type "function"))
    (F1 : FnOk X.prog X.w X.K X.mg X.base CX k fI fd ps sp) (hr : Room (k + 1) X.A) (hb : Binds X.K fd ps []) (hx : Passes CX X (fun _ _ _ => False)) (hg : Gl X x) (hm : X.mg x = some (.ref C)) (ha : PA X (e :: es) ta)
    (hdb : (x == ("__debug__" : Str)) = false := by decide) (he : starEach (e :: es) X.env = (false, eval e X.env) :: starEach es X.env := by rfl) (hpl : (backTo pos (starEach es X.env)).any (·.1) = false := by rfl) :
    PE X (.Call (.Name x p) (e :: es) [] pos) (tMkV C sp ta) := by
  refine ⟨fun pins s σ H Q I h => ?_⟩
  obtain ⟨nm, q, N, bs, bm, sn, sub, ab, col, dd, k0, k1, k2, k3, k5, hC, hbm⟩ := T.cls
  refine wpAny_Call_Name_kw (ld_glob I hg hm ?_ hdb)
  refine PySem.W.callWith_K (h₀ := X.base) I.ok.mod.kin T.kC (thn (ha.run pos pins s σ H _ I h) fun us s1 ⟨vs, H1, I1, r1, hz, q1⟩ => ⟨I1.kIn, ?_⟩) he hpl
  show wpAny _ _ (call (.ref C) us) _ _ _
  obtain ⟨hp, g, dr, tk, os⟩ := s1
  have hsz : hp.objs.size ≤ hp.objs.size + 1 := Nat.le_succ _
  have hn : H1 (hp.objs.size + 1) = none := I1.hok.fresh hsz
  have hq := q1 (hp.objs.size + 1) hn
  have kk : ∀ b o, hp.get? b = some o → ((hp.push (PySem.W.kdv_tup us)).push (PySem.HandSPX.excO C hp.objs.size)).get? b = some o := fun b o e => Heap.get?_push_of_some _ (Heap.get?_push_of_some _ e)
  have hget : ((hp.push (PySem.W.kdv_tup us)).push (PySem.HandSPX.excO C hp.objs.size)).get? (hp.objs.size + 1) = some (PySem.HandSPX.excO C hp.objs.size) := by heap_get
  have I2 : Inv X pins σ (upd H1 (hp.objs.size + 1) (exo (hp.objs.size + 1) C none)) ⟨(hp.push (PySem.W.kdv_tup us)).push (PySem.HandSPX.excO C hp.objs.size), g, dr, tk, os⟩ :=
    I1.laid (t' := tk) (a := hp.objs.size + 1) (o := exo (hp.objs.size + 1) C none) (h' := (hp.push (PySem.W.kdv_tup us)).push (PySem.HandSPX.excO C hp.objs.size)) kk hsz (exo_ok hget)
  have r2 : Vals (V.ref (hp.objs.size + 1) :: vs) (Value.ref (hp.objs.size + 1) :: us) := .cons rfl r1
  have hl : (Value.ref (hp.objs.size + 1) :: us ++ []).length = ps.length := by
    have e := r2.length
    rw [F1.len _ _ _ _ hq] at e
    rw [List.append_nil]
    exact e.symm
  have hus : us.length ≤ sizeLine := by
    rw [← Paired.length r1, sizeLine_eq]
    omega
  have hb2 := hb _ (Value.ref (hp.objs.size + 1) :: us) I2.kIn hl
  rw [List.append_nil] at hb2
  refine wpAny_call (PySem.HandSPX.call_own F.excBase_ValueError (fun Y => PySem.HandSPX.refsVE_contains Y bm hbm) (I1.kIn _ _ hC) (PySem.W.looks_findIn I1.kIn iC) (fun self => PySem.W.bind_fn I1.kIn self tI) hus
    (codeAny_mono (F1.run _ X.stack _ _ ⟨Value.ref (hp.objs.size + 1) :: us, []⟩ (Value.ref (hp.objs.size + 1) :: us) _ _ (fun _ _ _ => False) (hr.make C us []) (I2.env0.make C us []) hb2 r2 hq) fun r s' hq' => ?_))
  cases r with
  | error er => exact hx pins σ _ _ er s' I2 hq'
  | ok fl =>
    cases fl with
    | ret u =>
      obtain ⟨v, H2, os2, bare2, un2, hok2, rv, ev, q2⟩ := hq'
      subst ev
      obtain ⟨h2, g2, d2, t2, os'⟩ := s'
      exact ⟨rv, .ref (hp.objs.size + 1), H2, I2.call' (ch := []) os2 un2 hok2 bare2 (fun b z => absurd z (by simp)), rfl, q2⟩
    | next => exact False.elim hq'
    | brk => exact False.elim hq'
    | cont => exact False.elim hq'
/-- C.m(e, ..), m a def of the class C itself -/
theorem pe_clsdef {CX : CXT} {C f : Addr} {mc : Value} {E : XK} {pl : Sem Bool} (hg : Gl X x) (hm : X.mg x = some (.ref C)) (rd : PySem.W.readsIn X.K C mc = true) (ga : PySem.W.specialIn X.K (.ref C) "__getattribute__" = some (some (.builtin "type.__getattribute__")))
    (fi : PySem.W.findCls X.K (.ref C) mc m = some (.val (.ref f))) (hk : PySem.W.keepIn X.K (.ref f) = true) (F1 : FnOk X.prog X.w X.K X.mg X.base CX k f fd ps sp) (hr : Room k X.A) (hb : Binds X.K fd ps []) (hx : Passes CX X E) (ha : PA X (e :: es) ta)
    (hdb : (x == ("__debug__" : Str)) = false := by decide)
    (hc : eval (.Call (.Attribute (.Name x p1) m p2) (e :: es) [] pos) X.env = (do
      let ov ← eval (.Name x p1) X.env
      standAt p2.atName
      let (f, first) ← holding [ov] (getMethod ov m pl)
      callWith pos f first (backTo pos (starEach (e :: es) X.env)) (backToKw pos (keywordEach [] X.env))) := by rfl)
    (he : starEach (e :: es) X.env = (false, eval e X.env) :: starEach es X.env := by rfl) (hpl : (backTo pos (starEach es X.env)).any (·.1) = false := by rfl) :
    PE X (.Call (.Attribute (.Name x p1) m p2) (e :: es) [] pos) (tCall sp [] E ta) := by
  refine ⟨fun pins s σ H Q I h => ?_⟩
  refine PySem.W.methodCall_KW (ld_glob I hg hm ?_ hdb) hc
  refine PySem.W.method_cls I.kIn ga (PySem.W.cls_value I.kIn rd fi rfl ?_)
  show wpAny _ _ (callWith pos (Value.ref f) [] (backTo pos (starEach (e :: es) X.env)) []) _ _ _
  refine PySem.W.callWith_K (h₀ := X.base) I.ok.mod.kin hk (thn (ha.run pos pins _ σ H _ (I.tok _) h) fun us s1 ⟨vs, H1, I1, r, q⟩ => ⟨I1.kIn, ?_⟩) he hpl
  exact run_fn F1 hr hb .nil hx I1 r q
end
/-! ### what is asked of such an object -/
/-- isinstance(e, c) -/
def rIsX (K : PySem.W.Frag) : List V → Hp → VK → Prop := fun xs H Q => ∃ (a C dd : Addr) (fs : List (Str × V)) (c : V) (cv : Value) (b : Bool), xs = [.ref a, c] ∧ (∀ u, RelV c u → u = cv) ∧ ErrC K C ∧ H a = some (exo a C (some dd)) ∧ H dd = some (exd dd fs) ∧ PySem.W.kitOne K (.ref C) cv = some b ∧ Q (.bl b) H
theorem call_isX {X : Cx} : CallR X (.builtin "isinstance") (rIsX X.K) := by
  intro pins s σ H xs us Q I r h
  obtain ⟨a, C, dd, fs, c, cv, b, rfl, hcv, T, ea, ed, hk, q⟩ := h
  cases r with
  | cons rx rr =>
    cases rr with
    | cons rt rr =>
      cases rr
      cases rx
      have ec := hcv _ rt
      subst ec
      obtain ⟨t1, ho⟩ := exo_at I.hok ea
      obtain ⟨mA, hns, rel⟩ := exd_at I.hok ed
      obtain ⟨od, hod, _⟩ := lookIn_ns hns
      have J : PySem.W.InstAt s.heap a { cls := .ref C, dict := some dd, data := .fields #[.ref t1, .none, .none, .none, .bool false, .none] } C (some od) := ⟨ho, rfl, rfl, hod⟩
      refine PySem.W.kia_one (PySem.W.kitx_exc T.cl T.ga T.gg T.ex T.kc T.sp T.tk T.mo) I.kIn J hk (fun z => nomatch z) ?_
      intro tk
      exact ⟨.bl b, H, I.kept (t' := tk) fun _ _ z => z, rfl, q⟩
/-- e.f -/
def tXo (K : PySem.W.Frag) (f : Str) (te : TE) : TE := fun σ H Q => te σ H fun x H1 => ∃ (a C dd : Addr) (fs : List (Str × V)) (v : V), x = .ref a ∧ XfC K C ∧ PySem.W.findIn K (.ref C) f = some none ∧ H1 a = some (exo a C (some dd)) ∧ H1 dd = some (exd dd fs) ∧ fs.lookup f = some v ∧ Q v H1
theorem pe_xo {X : Cx} {e : Expr} {te : TE} {pos : Pos} {n : Str} (he : PE X e te) (hb : attributeBase e n X.env (eval e X.env) = eval e X.env := by rfl) : PE X (.Attribute e n pos) (tXo X.K n te) := by
  refine ⟨fun pins s σ H Q I h => ?_⟩
  refine attr_of hb (thn (he.run pins s σ H _ I h) fun u s1 hh => ?_)
  obtain ⟨x, H1, I1, rx, a, C, dd, fs, v, ex, T, hno, ea, ed, l, q⟩ := hh
  subst ex
  obtain rfl : u = Value.ref a := rx
  obtain ⟨t1, ho⟩ := exo_at I1.hok ea
  obtain ⟨mA, hns, hr⟩ := exd_at I1.hok ed
  obtain ⟨od, hod, hl⟩ := lookIn_ns hns
  obtain ⟨u, hu, ru⟩ := RelO.some_of (v := v) (o := mA n) (by rw [← l]; exact hr n)
  have J : PySem.W.InstAt s1.heap a { cls := .ref C, dict := some dd, data := .fields #[.ref t1, .none, .none, .none, .bool false, .none] } C (some od) := ⟨ho, rfl, rfl, hod⟩
  exact HandSPX.exc_get I1.kIn J T.ga T.gg T.exC (PySem.W.findObj_own T.hdC hno rfl (by rw [hl, hu])) (handed_of ru) ⟨v, H1, I1.tok _, ru, q⟩
/-! ### the class of all of them -/
def baseB (K : PySem.W.Frag) (C f : Addr) : Bool := PySem.W.readsIn K C (.type "type") && (decide (PySem.W.specialIn K (.ref C) "__getattribute__" = some (some (.builtin "type.__getattribute__"))) && PySem.W.keepIn K (.ref f))
/-- how the class of all of them stands -/
structure BaseK (K : PySem.W.Frag) (mg : Str → Option Value) (nm q : Str) (st : Stmt) where
  C : Addr
  f : Addr
  fd : FuncData
  g : mg nm = some (.ref C)
  F : Fun K "__init__" q st f fd
  b : Binds K fd ["self", "value"] []
  rd : PySem.W.readsIn K C (.type "type") = true
  ga : PySem.W.specialIn K (.ref C) "__getattribute__" = some (some (.builtin "type.__getattribute__"))
  fi : PySem.W.findCls K (.ref C) (.type "type") "__init__" = some (.val (.ref f))
  kp : PySem.W.keepIn K (.ref f) = true
/-- how one of them stands -/
structure ErrK (K : PySem.W.Frag) (mg : Str → Option Value) (nm q : Str) (CM : Addr) (st : Stmt) where
  C : Addr
  f : Addr
  fd : FuncData
  g : mg nm = some (.ref C)
  F : Fun K "__init__" q st f fd
  b : Binds K fd ["self", "value"] []
  x : ErrX K C CM f nm
theorem base_ok {K : PySem.W.Frag} {C f : Addr} (h : baseB K C f = true) : PySem.W.readsIn K C (.type "type") = true ∧ PySem.W.specialIn K (.ref C) "__getattribute__" = some (some (.builtin "type.__getattribute__")) ∧ PySem.W.keepIn K (.ref f) = true := by
  unfold baseB at h
  simp only [Bool.and_eq_true, decide_eq_true_eq] at h
  exact h
/-! ### list.count of truths -/
def eqb (k : Bool) (v : Value) : Bool := match v with
  | .bool n => n == k
  | _ => false
def rCntB (K : PySem.W.Frag) : V → List V → Hp → VK → Prop := fun x xs H Q => ∃ (p : Addr) (ns : List Bool) (k : Bool), x = .ref p ∧ xs = [.bl k] ∧ SqL K H p (ns.map V.bl) ∧ Q (.int (ns.count k : Nat)) H
theorem vals_bl : ∀ {ns : List Bool} {us : List Value}, Vals (ns.map V.bl) us → us = ns.map Value.bool
  | [], us, r => by cases r; rfl
  | n :: ns, us, r => by
    cases r with
    | cons h r2 =>
      have e := vals_bl r2
      rw [e]
      cases (show _ = Value.bool n from h)
      rfl
theorem eqb_count (k : Bool) : ∀ ns : List Bool, (ns.map Value.bool).countP (eqb k) = ns.count k
  | [] => rfl
  | n :: ns => by
    rw [List.map_cons, List.countP_cons, List.count_cons, eqb_count k ns]
    rfl
theorem mt_bcount {X : Cx} : MtR X "list.count" (rCntB X.K) := by
  intro pins s σ H x xs v us Q I rx rxs h
  obtain ⟨p, ns, k, rfl, rfl, hs, q⟩ := h
  cases rx
  obtain ⟨u, rfl, ru⟩ := rxs.one
  obtain rfl : u = Value.bool k := ru
  obtain ⟨its, rv, ⟨⟨cls, dd, data, sl⟩, n, ho, hc, hdn, hd⟩, hlen⟩ := I.list hs
  simp only at hc hd
  subst hc hd
  have hi := vals_bl rv
  subst hi
  refine call_meets PySem.F.slot_list_count ⟨_, ho, rfl⟩ PySem.F.entry_list_count (PySem.F.args_list_count_2 _ _)
    (SeqAt.list_countAt p (ns.map Value.bool).toArray n dd sl (.bool k) (eqb k)) ⟨ho, fun y hy => ?_, ?_⟩
  · have hy' : y ∈ ns.map Value.bool := by simpa using hy
    obtain ⟨b, _, rfl⟩ := List.mem_map.mp hy'
    exact SeqAt.EqAt.bool_bool b k
  have ec : (ns.map Value.bool).toArray.toList.countP (eqb k) = ns.count k := eqb_count k ns
  refine ⟨.int (ns.count k : Nat), H, I.tok _, ⟨s.toks, ?_⟩, q⟩
  show Value.int (((ns.map Value.bool).toArray.toList.countP (eqb k) : Nat) : Int) s.toks = Value.int ((ns.count k : Nat) : Int) s.toks
  rw [ec]
end Jf
set_option Elab.async false
set_option linter.all false
set_option maxRecDepth 100000
set_option maxHeartbeats 4000000
namespace Jf
open PySem PySem.Spec PyProof.Rows L2 Evl
/-- list(xs): a new list, not at sys.modules -/
def rListN (K : PySem.W.Frag) : List V → Hp → VK → Prop := fun xs H Q => ∃ (p : Addr) (ys : List V), xs = [.ref p] ∧ (SqL K H p ys ∨ SqT K H p ys) ∧ ∀ l, H l = none → l ≠ sysModules → Q (.ref l) (upd H l (.lst ys))
theorem call_listN {X : Cx} : CallR X (.type "list") (rListN X.K) := by
  rintro pins s σ H xs us Q I r ⟨p, ys, rfl, from_, k⟩
  obtain ⟨u, rfl, ru⟩ := vals1 r
  cases ru
  have done : ∀ its : List Value, Vals ys its → ys.length ≤ sizeLine → ∀ (h' : Heap) (n : Nat), (∀ b o, s.heap.get? b = some o → h'.get? b = some o) → h'.get? s.heap.objs.size = some { cls := .type "list", dict := none, data := .seq its.toArray n, slots := #[] } →
      EP X pins σ Q (.ref s.heap.objs.size) { s with heap := h' } := by
    intro its vals len h' n kp e
    have hf : H s.heap.objs.size = none := I.hok.fresh (Nat.le_refl _)
    refine ⟨.ref _, upd H _ (.lst ys), I.laid (t' := s.toks) kp (Nat.le_refl _) ?_, rfl, k _ hf (Nat.ne_of_gt I.big)⟩
    exact ⟨len, its, n, vals, e⟩
  rcases from_ with h | h
  · obtain ⟨its, vals, pl, len⟩ := I.list h
    have e := vals.length
    obtain ⟨o, e1, e2, n, e3⟩ := pl.isList
    exact call_list_seq p (.inl rfl) e1 e2 e3 (done its vals len) (by simp only [List.size_toArray]; omega)
  · obtain ⟨its, vals, pl, len⟩ := I.tuple h
    have e := vals.length
    obtain ⟨o, e1, e2, n, e3⟩ := pl
    exact call_list_seq p (.inr rfl) e1 e2 e3 (done its vals len) (by simp only [List.size_toArray]; omega)
end Jf
set_option Elab.async false
set_option linter.all false
set_option maxRecDepth 100000
set_option maxHeartbeats 4000000
namespace Jf
open PySem PySem.Spec PyProof.Rows L2
/-! ### several clauses, each with a name -/
/-- what the clauses wish of an exception of the body, one after the other -/
def wAsM (K : PySem.W.Frag) (Wout : WX) (D : Ends) : List (Value × Nat × (Addr → Value → Option Addr → TS)) → WX
  | [] => Wout
  | (c, i, ts) :: r => fun cls d σ H => ∃ b, PySem.W.exmOne K cls c = some b ∧
      (b = true → ∀ a, H a = none → ts a cls d { nx := fun σ' H' => D.nx (σ'.set i none) H', rt := D.rt, bk := fun σ' H' => D.bk (σ'.set i none) H', ct := fun σ' H' => D.ct (σ'.set i none) H' } (σ.set i (some (.ref a))) H) ∧
      (b = false → wAsM K Wout D r cls d σ H)
inductive HdsAs (X : Cx) : List ExceptHandler → List (Value × Nat × (Addr → Value → Option Addr → TS)) → Prop
  | nil : HdsAs X [] []
  | cons {x n : Str} {c : Value} {i : Nat} {ts : Addr → Value → Option Addr → TS} {b₀ : Stmt} {suite : List Stmt} {np pos' : Pos} {hds : List ExceptHandler} {l : List (Value × Nat × (Addr → Value → Option Addr → TS))}
      (hi : X.N[i]? = some n) (hln : X.env.kindOf n = some .local) (hc : Names X x c)
      (hsu : ∀ (a : Addr) (oe : Obj) (cls : Value) (d : Option Addr) (pn : List (Addr × Obj)), Zc cls d oe → (∃ vs, oe.data = .fields vs) → PSs (X.suite a ((a, oe) :: pn)) (b₀ :: suite) (ts a cls d)) (r : HdsAs X hds l) :
      HdsAs X (.ExceptHandler (some (.Name x np)) (some n) (b₀ :: suite) pos' :: hds) ((c, i, ts) :: l)
section
variable {X : Cx} {body : List Stmt} {h₀ : ExceptHandler} {hds : List ExceptHandler} {l : List (Value × Nat × (Addr → Value → Option Addr → TS))} {pos : Pos} {tb : WX → TS} {Wout : WX}
/-- an error of the body has come to the clauses: where it stands, and the state sI without it -/
structure Came (X : Cx) (pins : List (Addr × Obj)) (σ : L2.St) (H : Hp) (a : Addr) (cls : Value) (d : Option Addr) (B : Heap) (sI s : Shared) (h : Heap) : Prop where
  inv : Inv X pins σ H sI
  nb : ∀ b o, sI.heap.get? b = some o → b ∉ frs X.stack → B.get? b = some o
  free : H a = none
  os : s.os = sI.os
  ag : AllBare s.gens
  fl : HandSPX.FlyingZ B (X.env :: X.outer) a (Zc cls d) h
  up : sI.heap.UpToSlots h
section
variable {pins : List (Addr × Obj)} {σ : L2.St} {H : Hp} {a : Addr} {cls : Value} {d : Option Addr} {B h : Heap} {sI s : Shared} {D : Ends}
theorem Came.again {h' : Heap} (c : Came X pins σ H a cls d B sI s h) (f : HandSPX.FlyingZ B (X.env :: X.outer) a (Zc cls d) h') (u : h.UpToSlots h') : Came X pins σ H a cls d B sI s h' := ⟨c.inv, c.nb, c.free, c.os, c.ag, f, c.up.trans u⟩
theorem Came.here (c : Came X pins σ H a cls d B sI s h) : Inv X pins σ H { s with heap := h } := c.inv.landed c.nb c.fl.1 c.up c.os c.ag
theorem Came.off (hf : X.env.frame = some X.env.locals) (c : Came X pins σ H a cls d B sI s h) : a ≠ X.env.locals ∧ a ∉ X.fs := by
  obtain ⟨o, vs, e1, _, e2⟩ := c.fl.there
  have out : a ∉ frs (X.env :: X.outer) := fun hm => by
    obtain ⟨_, o', e3, n⟩ := c.fl.2.2.1.mem hm
    rw [e1] at e3
    cases e3
    exact n _ e2
  constructor
  · rintro rfl
    exact out (List.mem_filterMap.mpr ⟨X.env, List.mem_cons_self, hf⟩)
  · intro hm
    obtain ⟨e, he, q⟩ := List.mem_filterMap.mp hm
    exact out (List.mem_filterMap.mpr ⟨e, List.mem_cons_of_mem _ he, q⟩)
theorem Came.in (hf : X.env.frame = some X.env.locals) (c : Came X pins σ H a cls d B sI s h) : ∃ o vs, h.get? a = some o ∧ Zc cls d o ∧ o.data = .fields vs ∧ Inv (X.suite a ((a, o) :: (X.pn ++ pins))) [] σ H { s with heap := h } := by
  obtain ⟨o, vs, e1, e2, e3⟩ := c.fl.there
  exact ⟨o, vs, e1, e2, e3, c.here.suite e1 e3 c.free (c.off hf).1 (c.off hf).2⟩
/-- no clause takes it -/
theorem Came.on (hs : X.stack = X.env :: X.outer) (hf : X.env.frame = some X.env.locals) (tk : Takes X Wout) (c : Came X pins σ H a cls d B sI s h) (w : Wout cls d σ H) : wpAny (model X.prog X.w) X.A (handleBy (.ref a) X.env []) (SP X pins D) X.xe { s with heap := h } := by
  obtain ⟨_, _, _, o, vs, T, _, _, e1, _, e3, e4, _⟩ := id c.fl
  have last : wpAny (model X.prog X.w) X.A (setFlight (.ref a) X.env.frame) (fun _ s₁ => wpAny (model X.prog X.w) X.A (throw (.ref a) : Sem Flow) (SP X pins D) X.xe s₁) X.xe { s with heap := h } := by
    rw [hf]
    exact HandSPX.setFlight_upZ c.fl fun h' held u => wpAny_throw (tk _ _ ⟨a, B, sI, pins, σ, H, cls, d, rfl, c.inv, c.nb, c.up.trans u, .inr (.inr (hs ▸ held)), c.free, c.os, c.ag, w⟩)
  refine wpAny_handleBy_nil ?_
  unfold PySem.passOn
  refine wpAny_bind (wpAny_field e1 e3 e4 ?_)
  rw [if_neg (by simp : ¬ ((Value.ref T == Value.none) = true))]
  first
    | exact wpAny_bind last
    | exact wpAny_bind (wpAny_pure (wpAny_bind last))
/-- one takes it: its suite -/
theorem Came.go {i : Nat} {n : Str} {b₀ : Stmt} {suite : List Stmt} {pos' : Pos} {ts : Addr → Value → Option Addr → TS} (ok : Cx.Ok X) (hN : X.N.Nodup) (hf : X.env.frame = some X.env.locals) (hi : X.N[i]? = some n) (hln : X.env.kindOf n = some .local)
    (hsu : ∀ (a : Addr) (oe : Obj) (cls : Value) (d : Option Addr) (pn : List (Addr × Obj)), Zc cls d oe → (∃ vs, oe.data = .fields vs) → PSs (X.suite a ((a, oe) :: pn)) (b₀ :: suite) (ts a cls d)) (c : Came X pins σ H a cls d B sI s h)
    (w : ts a cls d { nx := fun σ' H' => D.nx (σ'.set i none) H', rt := D.rt, bk := fun σ' H' => D.bk (σ'.set i none) H', ct := fun σ' H' => D.ct (σ'.set i none) H' } (σ.set i (some (.ref a))) H) (o : Obj) (vs : Array Value)
    (e2 : Zc cls d o) (e3 : o.data = .fields vs) (S : Inv (X.suite a ((a, o) :: (X.pn ++ pins))) [] σ H { s with heap := h })
    {R : Flow → Shared → Prop} {Ee Eo : Value → Shared → Prop} (hR : ∀ f s', SP X pins D f s' → R f s') :
    wpAny (model X.prog X.w) (X.A.mark (some (.ref a))) (storeName X.env n (.ref a)) (fun _ s₁ => wpAny (model X.prog X.w) (X.A.mark (some (.ref a))) (execs (b₀ :: suite) X.env) (fun f s₂ =>
      wpAny (model X.prog X.w) X.A (do bindName X.env n .none; unbindBehindTheSuite X.env n pos') (fun _ s₃ => R f s₃) X.xe s₂) Ee s₁) Eo { s with heap := h } := by
  refine store_ok (X := X.suite a ((a, o) :: (X.pn ++ pins))) (v := .ref a) S hN hi (.inl hln) rfl (fun s₁ S₁ => ?_) (.inr hln)
  refine wpAny_mono ((hsu a o cls d (X.pn ++ pins) e2 ⟨_, e3⟩).run [] s₁ _ H _ S₁ w) (fun f s₂ q => ?_) fun _ _ z => z.elim
  have close : ∀ {σ₂ : L2.St} {H₂ : Hp}, Inv (X.suite a ((a, o) :: (X.pn ++ pins))) [] σ₂ H₂ s₂ → (∀ s₃, Inv X pins (σ₂.set i none) H₂ s₃ → R f s₃) → wpAny (model X.prog X.w) X.A (do bindName X.env n .none; unbindBehindTheSuite X.env n pos') (fun _ s₃ => R f s₃) X.xe s₂ :=
    fun S₂ k => gone_ok (S₂.unsuite ok) hN hi hln k
  match f, q with
  | .next, ⟨_, _, S₂, q₂⟩ => exact close S₂ fun _ J => hR _ _ ⟨_, _, J, q₂⟩
  | .brk, ⟨_, _, S₂, q₂⟩ => exact close S₂ fun _ J => hR _ _ ⟨_, _, J, q₂⟩
  | .cont, ⟨_, _, S₂, q₂⟩ => exact close S₂ fun _ J => hR _ _ ⟨_, _, J, q₂⟩
  | .ret _, ⟨_, _, _, S₂, r, q₂⟩ => exact close S₂ fun _ J => hR _ _ ⟨_, _, _, J, r, q₂⟩
/-- the clauses, from the first on -/
theorem Came.through (ok : Cx.Ok X) (hs : X.stack = X.env :: X.outer) (hf : X.env.frame = some X.env.locals) (hN : X.N.Nodup) (tk : Takes X Wout) : ∀ {hds : List ExceptHandler} {l : List (Value × Nat × (Addr → Value → Option Addr → TS))} {h : Heap}, HdsAs X hds l → Came X pins σ H a cls d B sI s h →
    wAsM X.K Wout D l cls d σ H → wpAny (model X.prog X.w) X.A (handleBy (.ref a) X.env hds) (SP X pins D) X.xe { s with heap := h }
  | _, _, _, .nil, c, w => c.on hs hf tk w
  | _, _, h, .cons (x := x) (c := cv) (np := np) hi hln hc hsu r, c, ⟨b, hb, yes, no⟩ => by
    obtain ⟨o, vs, e1, e2, e3, S⟩ := c.in hf
    have name : ∀ {Q E : Value → Shared → Prop}, Q cv { s with heap := h } → wpAny (model X.prog X.w) (X.A.mark (some (.ref a))) (eval (.Name x np) X.env) Q E { s with heap := h } := fun {Q E} q => by
      rcases hc with ⟨g, nd, m | ⟨m, v, nn⟩⟩
      · exact ld_glob (X := X.suite a ((a, o) :: (X.pn ++ pins))) S g m q nd
      · exact ld_blt (X := X.suite a ((a, o) :: (X.pn ++ pins))) S g m v q nn nd
    have of : PySem.W.Looks (model X.prog X.w) h (typeOf (.ref a)) cls := fun _ _ _ _ k q => wpAny_typeOf_ref (k _ _ e1) (by rw [e2.1]; exact q)
    refine wpAny_handleBy_cons (codeAny_handlers_test (name ((PySem.W.exm_one (M := model X.prog X.w) c.here.kIn of hb).here ?_))) (by intro z; cases z)
    match b, yes, no with
    | false, _, no => exact Came.through ok hs hf hN tk r c (no rfl)
    | true, yes, _ =>
      refine codeAny_handlers_suite_as (HandSPX.lands_againZ c.fl fun h' f' u => ?_)
      have c' := c.again f' u
      obtain ⟨o', vs', _, e2', e3', S'⟩ := c'.in hf
      exact c'.go ok hN hf hi hln hsu (yes rfl a c.free) o' vs' e2' e3' S' fun f s' q => by
        cases f <;> exact q
end
theorem ps_try_asM (hs : X.stack = X.env :: X.outer) (hf : X.env.frame = some X.env.locals) (hN : X.N.Nodup) (tk : Takes X Wout)
    (hb : ∀ (W : WX) (pn : List (Addr × Obj)) (xe : Value → Shared → Prop), Takes (X.tr pn xe) W → PassesOwn (model X.prog X.w) X.A X.env xe → PSs (X.tr pn xe) body (tb W))
    (hh : HdsAs X (h₀ :: hds) l) : PS X (.Try body (h₀ :: hds) [] [] pos) (fun D σ H => tb (wAsM X.K Wout D l) D σ H) := by
  refine ⟨fun pins s σ H D I w => wpAny_Try_except ?_⟩
  have ok := I.ok
  refine wpAny_mono ((hb (wAsM X.K Wout D l) (X.pn ++ pins) (fun e s₁ => wpAny (model X.prog X.w) X.A (noteFrame e X.env) (fun _ s₂ => wpAny (model X.prog X.w) X.A (setFlight e none) (fun _ s₃ =>
    wpAny (model X.prog X.w) X.A (handleBy e X.env (h₀ :: hds)) (SP X pins D) X.xe s₃) X.xe s₂) X.xe s₁) ?_ PassesOwn.looking).run [] s σ H D (I.toTry _) w) ?_ fun _ _ z => z
  · rintro u s' ⟨a, B, sI, _, σ', H', cls, d, rfl, J, nb, up, sky, na, os, ag, w'⟩
    exact Sky.land Zc.steady (ok.frames.trans (by rw [hs])) hf (hs ▸ sky) fun h' fl up' => Came.through ok hs hf hN tk hh ⟨J.ofTry ok, nb, na, os, ag, fl, up.trans up'⟩ w'
  · rintro f s' q
    match f, q with
    | .next, ⟨_, _, J, q⟩ => exact wpAny_execs_nil ⟨_, _, J.ofTry ok, q⟩
    | .brk, ⟨_, _, J, q⟩ => exact ⟨_, _, J.ofTry ok, q⟩
    | .cont, ⟨_, _, J, q⟩ => exact ⟨_, _, J.ofTry ok, q⟩
    | .ret _, ⟨_, _, _, J, r, q⟩ => exact ⟨_, _, _, J.ofTry ok, r, q⟩
end
end Jf
set_option Elab.async false
set_option linter.all false
set_option maxRecDepth 100000
set_option maxHeartbeats 4000000
namespace Jf
open PySem PySem.Spec PyProof.Rows L2 HT
/-! ### t[::-1] of a tuple -/
section
variable {prog : Program} {w : World} {A : Around} {E : Value → Shared → Prop} {s : Shared}
theorem rev_adjust (n : Nat) : Builtin.Slice.sliceAdjust none none (-1) (n : Int) = ((n : Int) - 1, -1) := by
  unfold Builtin.Slice.sliceAdjust
  simp
theorem rev_places (n : Nat) : Builtin.Slice.slicePlaces ((n : Int) - 1) (-1) (-1) = n := by
  unfold Builtin.Slice.slicePlaces
  have h1 : ¬ ((-1 : Int) > 0) := by decide
  simp only [h1, if_false]
  by_cases h : (n : Int) - 1 > -1
  · rw [if_pos h, show (- -1 : Int) = 1 by decide, Int.ediv_one]
    omega
  · rw [if_neg h]
    omega
theorem sliceApplied_rev {sl : Addr} {vl vu vs : Value} {n : Nat} {Q : Int × Int × Nat → Shared → Prop} (hs : s.heap.IsSliceOf sl vl vu vs) (pl : IsPart vl none) (pu : IsPart vu none) (ps : IsPart vs (some (-1)))
    (h : Q ((n : Int) - 1, -1, n) s) : wpAny (model prog w) A (Builtin.Slice.sliceApplied (.ref sl) (pure (n : Int))) Q E s := by
  obtain ⟨os, hos, hcs, hds⟩ := id hs
  unfold Builtin.Slice.sliceApplied Builtin.Slice.sliceFields
  refine wpAny_bind (wpAny_bind (wpAny_field hos hds (x := vl) rfl (wpAny_bind (wpAny_field hos hds (x := vu) rfl (wpAny_bind (wpAny_field hos hds (x := vs) rfl (wpAny_pure ?_)))))))
  refine wpAny_bind (slicePart_ ps ?_)
  show wpAny _ _ (if ((-1 : Int) == 0) = true then _ else _) _ _ s
  rw [if_neg (by decide)]
  refine wpAny_bind (slicePart_ pl (wpAny_bind (slicePart_ pu (wpAny_bind (wpAny_pure ?_)))))
  show wpAny _ _ (match Builtin.Slice.sliceAdjust none none (-1) (n : Int) with | (lo, hi) => pure (lo, (-1 : Int), Builtin.Slice.slicePlaces lo hi (-1))) _ _ s
  rw [rev_adjust n]
  show wpAny _ _ (pure ((n : Int) - 1, (-1 : Int), Builtin.Slice.slicePlaces ((n : Int) - 1) (-1) (-1))) _ _ s
  rw [rev_places]
  exact wpAny_pure h
theorem pick_rev (xs : Array Value) : ((List.range xs.size).filterMap fun (m : Nat) => xs[((xs.size : Int) - 1 + (m : Int) * (-1)).toNat]?).toArray = xs.toList.reverse.toArray := by
  have e : (fun (m : Nat) => xs[((xs.size : Int) - 1 + (m : Int) * (-1)).toNat]?) = fun m => xs[xs.size - 1 - m]? := by
    funext m
    have : ((xs.size : Int) - 1 + (m : Int) * (-1)).toNat = xs.size - 1 - m := by omega
    rw [this]
  rw [e]
  have e2 : ((List.range xs.size).filterMap fun m => xs[xs.size - 1 - m]?) = ((List.range xs.size).map fun m => xs.size - 1 - m).filterMap (xs[·]?) := by
    rw [List.filterMap_map]
    rfl
  rw [e2, PySem.W.krv_range, List.filterMap_reverse, PySem.W.krv_all]
theorem getItem_tuple_rev {t sl : Addr} {items : Array Value} {vl vu vs : Value} {Q : Value → Shared → Prop} (ht : IsTup s.heap t items) (hs : s.heap.IsSliceOf sl vl vu vs) (pl : IsPart vl none) (pu : IsPart vu none) (ps : IsPart vs (some (-1)))
    (h : Q (.ref s.heap.objs.size) { s with heap := s.heap.push { cls := .type "tuple", data := .seq items.toList.reverse.toArray } })
    (hsz : items.size ≤ sizeLine) : wpAny (model prog w) A (getItem (.ref t) (.ref sl)) Q E s := by
  have htake : sizeOk (.seq items.toList.reverse.toArray) := by
    show items.toList.reverse.toArray.size ≤ sizeLine
    rw [List.size_toArray, List.length_reverse, Array.length_toList]
    exact hsz
  obtain ⟨os, hos, hcs, hds⟩ := id hs
  have hTs : s.TypeIs (.ref sl) "slice" := ⟨os, hos, hcs⟩
  unfold getItem
  try with_reducible refine wpAny_holding ?_
  first | refine wpAny_bind (wpAny_pure ?_) | skip
  refine wpAny_bind (wpAny_sequenceKey ht.typeIs (by decide) ?_)
  refine wpAny_bind (wpAny_callSpecial?_slot (name := Str.ofString "__getitem__") ht.typeIs PyProof.Rows.slot_tuple_getitem
    (wpAny_call_entry PyProof.Rows.slot_tuple_getitem ht.typeIs entry_tuple_getitem ?_ (args_tuple_getitem _ _)))
  show wpAny _ _ (Builtin.Tuple.tupleItemsOf (.ref t) >>= _) _ _ s
  refine wpAny_bind (tupleItemsOf_ ht ?_)
  refine wpAny_bind (wpAny_typeOf hTs ?_)
  rw [if_pos (by decide)]
  refine wpAny_bind (sliceApplied_rev hs pl pu ps ?_)
  have hno : ¬ ((((items.size : Int) - 1) == 0 && (-1 : Int) == 1 && items.size == items.size) = true) := by
    intro q
    rw [Bool.and_eq_true, Bool.and_eq_true] at q
    exact absurd q.1.2 (by decide)
  show wpAny _ _ (if (((items.size : Int) - 1) == 0 && (-1 : Int) == 1 && items.size == items.size) = true then _ else _) _ _ s
  rw [if_neg hno, pick_rev]
  first
    | exact wpAny_bind (m := Builtin.Tuple.tupleExact _) (wpAny_newObj_type (wpAny_pure ⟨_, rfl, wpAny_pure h⟩) htake)
    | exact wpAny_bind (m := Builtin.Tuple.tupleExact _) (wpAny_newObj_type (wpAny_bind (wpAny_pure (wpAny_pure ⟨_, rfl, wpAny_pure h⟩))) htake)
    | exact wpAny_bind (wpAny_bind (m := Builtin.Tuple.tupleExact _) (wpAny_newObj_type (wpAny_pure (wpAny_pure ⟨_, rfl, wpAny_pure h⟩)) htake))
    | exact wpAny_bind (wpAny_bind (m := Builtin.Tuple.tupleExact _) (wpAny_newObj_type (wpAny_pure ⟨_, rfl, wpAny_pure h⟩) htake))
end
def tRevT (K : PySem.W.Frag) (te : TE) : TE := fun σ H Q => te σ H fun x H1 => ∃ a xs, x = .ref a ∧ SqT K H1 a xs ∧ ∀ p, H1 p = none → Q (.ref p) (upd H1 p (.tup xs.reverse))
theorem pe_revT {X : Cx} {e : Expr} {te : TE} {k : Nat} {p1 p2 p3 pos : Pos} (he : PE X e te) : PE X (.Subscript e (.Slice none none (some (.UnaryOp .USub (.Constant (.int 1) k p1) p2)) p3) pos) (tRevT X.K te) := by
  refine ⟨fun pins s σ H Q I h => ?_⟩
  refine Subscript_ (thn (he.run pins s σ H _ I h) fun v s1 ⟨x, H1, I1, r1, q1⟩ => ?_)
  obtain ⟨a, xs, ex, hx, q⟩ := q1
  subst ex
  cases r1
  have hst : PO X (some (.UnaryOp .USub (.Constant (.int 1) k p1) p2)) (tPart (tUn (rU fun i => .int (-i)) (tC (.int 1)))) := po_some (pe_un un_neg pe_int)
  refine wpAny_Slice (thn (po_none.run pins s1 σ H1 (fun o H2 => o = none ∧ H2 = H1) I1 ⟨rfl, rfl⟩) fun vl s2 ⟨l, H2, I2, pl, el, e2⟩ => ?_)
  subst el e2
  refine thn (po_none.run pins s2 σ H2 (fun o H3 => o = none ∧ H3 = H2) I2 ⟨rfl, rfl⟩) fun vu s3 ⟨u, H3, I3, pu, eu, e3⟩ => ?_
  subst eu e3
  refine thn (hst.run pins s3 σ H3 (fun o H4 => o = some (-1) ∧ H4 = H3) I3 ⟨1, rfl, -1, rfl, rfl, rfl⟩) fun vs s4 ⟨o, H4, I4, ps, eo, e4⟩ => ?_
  subst eo e4
  have I5 : Inv X pins σ H4 { s4 with heap := s4.heap.push { cls := .type "slice", data := .fields #[vl, vu, vs] } } := I4.kept (t' := s4.toks) fun b ob q => Heap.get?_push_of_some _ q
  obtain ⟨its, r, ht, hz⟩ := I5.tuple hx
  have hlen := r.length
  show wpAny (model X.prog X.w) X.A (subscriptTail e (.Slice none none (some (.UnaryOp .USub (.Constant (.int 1) k p1) p2)) p3) (.ref a) (.ref s4.heap.objs.size)) (EP X pins σ Q) X.xe { s4 with heap := s4.heap.push { cls := .type "slice", data := .fields #[vl, vu, vs] } }
  refine tail_any (ops := [.ref a, .ref s4.heap.objs.size]) ht.typeIs (PyProof.Rows.slot_tuple_getitem.lookup) ?_ (by with_unfolding_all rfl)
  refine getItem_tuple_rev ht (Heap.IsSliceOf.new _ vl vu vs) pl pu ps ?_ (by rw [List.size_toArray]; omega)
  refine ⟨.ref _, _, I5.laid (t' := s4.toks) (o := .tup xs.reverse) (fun b ob q => Heap.get?_push_of_some _ q) (Nat.le_refl _) ?_, rfl, q _ (I5.hok.fresh (Nat.le_refl _))⟩
  exact ⟨by rw [List.length_reverse]; exact hz, _, r.reverse, IsTup.new _ _⟩
end Jf
set_option Elab.async false
set_option linter.all false
set_option maxRecDepth 100000
set_option maxHeartbeats 4000000
namespace Jf
open PySem PySem.Spec PyProof.Rows L2 Evl
/-! ### the text -/
def topS (i : Nat) : Stmt := PySem.Challenge.pw_onenumber_k36_sizes.main.body.getD i (.Pass ⟨0, 0, 0, 0⟩)
abbrev s_is_whole : Stmt := topS 5
abbrev n_is_whole : List Str := ["value"]
abbrev s_is_fraction : Stmt := topS 6
abbrev n_is_fraction : List Str := ["value", "top", "bottom"]
abbrev s_is_above_zero : Stmt := topS 7
abbrev n_is_above_zero : List Str := ["value"]
abbrev s_is_outcome : Stmt := topS 14
abbrev n_is_outcome : List Str := ["value"]
abbrev s_has_form_of_step : Stmt := topS 15
abbrev n_has_form_of_step : List Str := ["value", "outcomes", "entry"]
abbrev s_has_form_of_all : Stmt := topS 16
abbrev n_has_form_of_all : List Str := ["value"]
abbrev s_has_form_of_term : Stmt := topS 17
abbrev n_has_form_of_term : List Str := ["value"]
abbrev s_is_step : Stmt := topS 18
abbrev n_is_step : List Str := ["term"]
abbrev s_children : Stmt := topS 19
abbrev n_children : List Str := ["term", "_", "inner"]
abbrev s_measure : Stmt := topS 20
abbrev n_measure : List Str := ["value", "waiting", "step_count", "part_count", "part"]
abbrev s_is_mix : Stmt := topS 21
abbrev n_is_mix : List Str := ["value", "step_count", "part_count", "entry", "measured"]
abbrev s_require_mix : Stmt := topS 22
abbrev n_require_mix : List Str := ["value"]
abbrev s_product_of : Stmt := topS 24
abbrev n_product_of : List Str := ["integers", "result", "integer"]
abbrev s_size_of_term : Stmt := topS 25
abbrev n_size_of_term : List Str := ["term", "inner_sizes", "inner"]
abbrev s_size_of_mix : Stmt := topS 26
abbrev n_size_of_mix : List Str := ["mix", "term"]
abbrev s_size : Stmt := topS 27
abbrev n_size : List Str := ["mix"]
abbrev s__law_open : Stmt := topS 29
abbrev n__law_open : List Str := ["_law_script", "_law_cells", "_law_k", "_law_cell"]
abbrev s__law_spread : Stmt := topS 30
abbrev n__law_spread : List Str := ["_law_cell", "_law_k", "_law_primes", "_law_one", "_law_two", "_law_three"]
abbrev s__law_take : Stmt := topS 31
abbrev n__law_take : List Str := ["_law_pen", "_law_many", "_law_k", "_law_cell", "_law_found"]
abbrev s__law_one_of : Stmt := topS 32
abbrev n__law_one_of : List Str := ["_law_pen", "_law_some"]
abbrev s__law_fr : Stmt := topS 33
abbrev n__law_fr : List Str := ["_law_top", "_law_bottom", "_law_one", "_law_other"]
abbrev s__law_weights : Stmt := topS 39
abbrev n__law_weights : List Str := ["_law_pen", "_law_way", "_law_many", "_law_turn"]
abbrev s__law_pay : Stmt := topS 40
abbrev n__law_pay : List Str := ["_law_pen", "_law_way", "_law_top", "_law_bottom", "_law_sign_here"]
abbrev s__law_term : Stmt := topS 41
abbrev n__law_term : List Str := ["_law_pen", "_law_way", "_law_deep", "_law_members", "_law_some", "_law_turn", "_law_weight"]
abbrev s__law_steps : Stmt := topS 42
abbrev n__law_steps : List Str := ["_law_term_here", "_law_found", "_law_one"]
abbrev s__law_size : Stmt := topS 43
abbrev n__law_size : List Str := ["_law_term_here", "_law_sizes", "_law_product", "_law_one_size", "_law_one", "_law_two"]
abbrev s__law_size_of : Stmt := topS 44
abbrev n__law_size_of : List Str := ["_law_mix_here", "_law_product", "_law_term_here"]
abbrev s__law_parts : Stmt := topS 45
abbrev n__law_parts : List Str := ["_law_term_here", "_law_one", "_law_two"]
abbrev s__law_mix : Stmt := topS 46
abbrev n__law_mix : List Str := ["_law_pen", "_law_way", "_law_most", "_law_found", "_law_turn", "_law_more", "_law_many", "_law_many_parts", "_law_one"]
abbrev s__law_is_refused : Stmt := topS 55
abbrev n__law_is_refused : List Str := ["_law_thing", "e"]
abbrev s_law : Stmt := topS 56
abbrev n_law : List Str := ["_law_script", "_law_pen", "_law_turn", "_law_mix_here", "_law_more", "_law_brief", "_law_wide", "_law_odds", "_law_odd"]
abbrev s_i_MixError : Stmt := inClass (topS 2) 0
theorem sc_i_MixError : FnScope ["self", "value"] ["self", "value"] (defScope s_i_MixError) := ⟨rfl, rfl, rfl, by decide +kernel, rfl, by decide +kernel, by decide +kernel⟩
abbrev s_i_BadMix : Stmt := inClass (topS 3) 0
theorem sc_i_BadMix : FnScope ["self", "value"] ["self", "value"] (defScope s_i_BadMix) := ⟨rfl, rfl, rfl, by decide +kernel, rfl, by decide +kernel, by decide +kernel⟩
theorem sc_is_whole : FnScope ["value"] ["value"] (defScope s_is_whole) := ⟨rfl, rfl, rfl, by decide +kernel, rfl, by decide +kernel, by decide +kernel⟩
theorem sc_is_fraction : FnScope ["value", "top", "bottom"] ["value"] (defScope s_is_fraction) := ⟨rfl, rfl, rfl, by decide +kernel, rfl, by decide +kernel, by decide +kernel⟩
theorem sc_is_above_zero : FnScope ["value"] ["value"] (defScope s_is_above_zero) := ⟨rfl, rfl, rfl, by decide +kernel, rfl, by decide +kernel, by decide +kernel⟩
theorem sc_is_outcome : FnScope ["value"] ["value"] (defScope s_is_outcome) := ⟨rfl, rfl, rfl, by decide +kernel, rfl, by decide +kernel, by decide +kernel⟩
theorem sc_has_form_of_step : FnScope ["value", "outcomes", "entry"] ["value"] (defScope s_has_form_of_step) := ⟨rfl, rfl, rfl, by decide +kernel, rfl, by decide +kernel, by decide +kernel⟩
theorem sc_has_form_of_all : FnScope ["value"] ["value"] (defScope s_has_form_of_all) := ⟨rfl, rfl, rfl, by decide +kernel, rfl, by decide +kernel, by decide +kernel⟩
theorem sc_has_form_of_term : FnScope ["value"] ["value"] (defScope s_has_form_of_term) := ⟨rfl, rfl, rfl, by decide +kernel, rfl, by decide +kernel, by decide +kernel⟩
theorem sc_is_step : FnScope ["term"] ["term"] (defScope s_is_step) := ⟨rfl, rfl, rfl, by decide +kernel, rfl, by decide +kernel, by decide +kernel⟩
theorem sc_children : FnScope ["term", "_", "inner"] ["term"] (defScope s_children) := ⟨rfl, rfl, rfl, by decide +kernel, rfl, by decide +kernel, by decide +kernel⟩
theorem sc_measure : FnScope ["value", "waiting", "step_count", "part_count", "part"] ["value"] (defScope s_measure) := ⟨rfl, rfl, rfl, by decide +kernel, rfl, by decide +kernel, by decide +kernel⟩
theorem sc_is_mix : FnScope ["value", "step_count", "part_count", "entry", "measured"] ["value"] (defScope s_is_mix) := ⟨rfl, rfl, rfl, by decide +kernel, rfl, by decide +kernel, by decide +kernel⟩
theorem sc_require_mix : FnScope ["value"] ["value"] (defScope s_require_mix) := ⟨rfl, rfl, rfl, by decide +kernel, rfl, by decide +kernel, by decide +kernel⟩
theorem sc_product_of : FnScope ["integers", "result", "integer"] ["integers"] (defScope s_product_of) := ⟨rfl, rfl, rfl, by decide +kernel, rfl, by decide +kernel, by decide +kernel⟩
theorem sc_size_of_term : FnScope ["term", "inner_sizes", "inner"] ["term"] (defScope s_size_of_term) := ⟨rfl, rfl, rfl, by decide +kernel, rfl, by decide +kernel, by decide +kernel⟩
theorem sc_size_of_mix : FnScope ["mix", "term"] ["mix"] (defScope s_size_of_mix) := ⟨rfl, rfl, rfl, by decide +kernel, rfl, by decide +kernel, by decide +kernel⟩
theorem sc_size : FnScope ["mix"] ["mix"] (defScope s_size) := ⟨rfl, rfl, rfl, by decide +kernel, rfl, by decide +kernel, by decide +kernel⟩
theorem sc__law_open : FnScope ["_law_script", "_law_cells", "_law_k", "_law_cell"] ["_law_script"] (defScope s__law_open) := ⟨rfl, rfl, rfl, by decide +kernel, rfl, by decide +kernel, by decide +kernel⟩
theorem sc__law_spread : FnScope ["_law_cell", "_law_k", "_law_primes", "_law_one", "_law_two", "_law_three"] ["_law_cell", "_law_k"] (defScope s__law_spread) := ⟨rfl, rfl, rfl, by decide +kernel, rfl, by decide +kernel, by decide +kernel⟩
theorem sc__law_take : FnScope ["_law_pen", "_law_many", "_law_k", "_law_cell", "_law_found"] ["_law_pen", "_law_many"] (defScope s__law_take) := ⟨rfl, rfl, rfl, by decide +kernel, rfl, by decide +kernel, by decide +kernel⟩
theorem sc__law_one_of : FnScope ["_law_pen", "_law_some"] ["_law_pen", "_law_some"] (defScope s__law_one_of) := ⟨rfl, rfl, rfl, by decide +kernel, rfl, by decide +kernel, by decide +kernel⟩
theorem sc__law_fr : FnScope ["_law_top", "_law_bottom", "_law_one", "_law_other"] ["_law_top", "_law_bottom"] (defScope s__law_fr) := ⟨rfl, rfl, rfl, by decide +kernel, rfl, by decide +kernel, by decide +kernel⟩
theorem sc__law_weights : FnScope ["_law_pen", "_law_way", "_law_many", "_law_turn"] ["_law_pen", "_law_way"] (defScope s__law_weights) := ⟨rfl, rfl, rfl, by decide +kernel, rfl, by decide +kernel, by decide +kernel⟩
theorem sc__law_pay : FnScope ["_law_pen", "_law_way", "_law_top", "_law_bottom", "_law_sign_here"] ["_law_pen", "_law_way"] (defScope s__law_pay) := ⟨rfl, rfl, rfl, by decide +kernel, rfl, by decide +kernel, by decide +kernel⟩
theorem sc__law_term : FnScope ["_law_pen", "_law_way", "_law_deep", "_law_members", "_law_some", "_law_turn", "_law_weight"] ["_law_pen", "_law_way", "_law_deep"] (defScope s__law_term) := ⟨rfl, rfl, rfl, by decide +kernel, rfl, by decide +kernel, by decide +kernel⟩
theorem sc__law_steps : FnScope ["_law_term_here", "_law_found", "_law_one"] ["_law_term_here"] (defScope s__law_steps) := ⟨rfl, rfl, rfl, by decide +kernel, rfl, by decide +kernel, by decide +kernel⟩
theorem sc__law_size : FnScope ["_law_term_here", "_law_sizes", "_law_product", "_law_one_size", "_law_one", "_law_two"] ["_law_term_here"] (defScope s__law_size) := ⟨rfl, rfl, rfl, by decide +kernel, rfl, by decide +kernel, by decide +kernel⟩
theorem sc__law_size_of : FnScope ["_law_mix_here", "_law_product", "_law_term_here"] ["_law_mix_here"] (defScope s__law_size_of) := ⟨rfl, rfl, rfl, by decide +kernel, rfl, by decide +kernel, by decide +kernel⟩
theorem sc__law_parts : FnScope ["_law_term_here", "_law_one", "_law_two"] ["_law_term_here"] (defScope s__law_parts) := ⟨rfl, rfl, rfl, by decide +kernel, rfl, by decide +kernel, by decide +kernel⟩
theorem sc__law_mix : FnScope ["_law_pen", "_law_way", "_law_most", "_law_found", "_law_turn", "_law_more", "_law_many", "_law_many_parts", "_law_one"] ["_law_pen", "_law_way", "_law_most"] (defScope s__law_mix) := ⟨rfl, rfl, rfl, by decide +kernel, rfl, by decide +kernel, by decide +kernel⟩
theorem sc__law_is_refused : FnScope ["_law_thing", "e"] ["_law_thing"] (defScope s__law_is_refused) := ⟨rfl, rfl, rfl, by decide +kernel, rfl, by decide +kernel, by decide +kernel⟩
theorem sc_law : FnScope ["_law_script", "_law_pen", "_law_turn", "_law_mix_here", "_law_more", "_law_brief", "_law_wide", "_law_odds", "_law_odd"] ["_law_script"] (defScope s_law) := ⟨rfl, rfl, rfl, by decide +kernel, rfl, by decide +kernel, by decide +kernel⟩
/-- what the top has written -/
structure Txt (K : PySem.W.Frag) (mg : Str → Option Value) where
  d_is_whole : FT K mg "is_whole" s_is_whole ["value"]
  d_is_fraction : FT K mg "is_fraction" s_is_fraction ["value"]
  d_is_above_zero : FT K mg "is_above_zero" s_is_above_zero ["value"]
  d_is_outcome : FT K mg "is_outcome" s_is_outcome ["value"]
  d_has_form_of_step : FT K mg "has_form_of_step" s_has_form_of_step ["value"]
  d_has_form_of_all : FT K mg "has_form_of_all" s_has_form_of_all ["value"]
  d_has_form_of_term : FT K mg "has_form_of_term" s_has_form_of_term ["value"]
  d_is_step : FT K mg "is_step" s_is_step ["term"]
  d_children : FT K mg "children" s_children ["term"]
  d_measure : FT K mg "measure" s_measure ["value"]
  d_is_mix : FT K mg "is_mix" s_is_mix ["value"]
  d_require_mix : FT K mg "require_mix" s_require_mix ["value"]
  d_product_of : FT K mg "product_of" s_product_of ["integers"]
  d_size_of_term : FT K mg "size_of_term" s_size_of_term ["term"]
  d_size_of_mix : FT K mg "size_of_mix" s_size_of_mix ["mix"]
  d_size : FT K mg "size" s_size ["mix"]
  d__law_open : FT K mg "_law_open" s__law_open ["_law_script"]
  d__law_spread : FT K mg "_law_spread" s__law_spread ["_law_cell", "_law_k"]
  d__law_take : FT K mg "_law_take" s__law_take ["_law_pen", "_law_many"]
  d__law_one_of : FT K mg "_law_one_of" s__law_one_of ["_law_pen", "_law_some"]
  d__law_fr : FT K mg "_law_fr" s__law_fr ["_law_top", "_law_bottom"]
  d__law_weights : FT K mg "_law_weights" s__law_weights ["_law_pen", "_law_way"]
  d__law_pay : FT K mg "_law_pay" s__law_pay ["_law_pen", "_law_way"]
  d__law_term : FT K mg "_law_term" s__law_term ["_law_pen", "_law_way", "_law_deep"]
  d__law_steps : FT K mg "_law_steps" s__law_steps ["_law_term_here"]
  d__law_size : FT K mg "_law_size" s__law_size ["_law_term_here"]
  d__law_size_of : FT K mg "_law_size_of" s__law_size_of ["_law_mix_here"]
  d__law_parts : FT K mg "_law_parts" s__law_parts ["_law_term_here"]
  d__law_mix : FT K mg "_law_mix" s__law_mix ["_law_pen", "_law_way", "_law_most"]
  d__law_is_refused : FT K mg "_law_is_refused" s__law_is_refused ["_law_thing"]
  d_law : FT K mg "law" s_law ["_law_script"]
  n_abs : mg "abs" = none
  n_all : mg "all" = none
  n_bool : mg "bool" = none
  n_enumerate : mg "enumerate" = none
  n_int : mg "int" = none
  n_isinstance : mg "isinstance" = none
  n_len : mg "len" = none
  n_list : mg "list" = none
  n_range : mg "range" = none
  n_repr : mg "repr" = none
  n_sum : mg "sum" = none
  n_tuple : mg "tuple" = none
  n_gcd : mg "gcd" = some (.builtin "math.gcd")
  a_END : Addr
  c_END : mg "END" = some (.ref a_END)
  k_END : ∃ (o : Obj) (its : Array Value) (n : Nat), K.lookup a_END = some o ∧ o.cls = .type "tuple" ∧ o.data = .seq its n ∧ its.size ≤ sizeLine ∧ Vals [.str "end"] its.toList
  t_MOST_STEPS : Tok
  c_MOST_STEPS : mg "MOST_STEPS" = some (.int 16 t_MOST_STEPS)
  t_MOST_PARTS : Tok
  c_MOST_PARTS : mg "MOST_PARTS" = some (.int 48 t_MOST_PARTS)
  t_MOST_TERMS : Tok
  c_MOST_TERMS : mg "MOST_TERMS" = some (.int 4 t_MOST_TERMS)
  t_MOST_MIX_PARTS : Tok
  c_MOST_MIX_PARTS : mg "MOST_MIX_PARTS" = some (.int 96 t_MOST_MIX_PARTS)
  c_has_form_of_step : Addr
  P_has_form_of_step : Addr
  h_has_form_of_step : d_has_form_of_step.fd.code = .ref c_has_form_of_step
  n_ValueError : mg "ValueError" = none
  v_VE : PySem.W.findCls K (.type "ValueError") (.type "type") "__init__" = some (.val (.builtin "ValueError.__init__"))
  M : BaseK K mg "MixError" "MixError.__init__" s_i_MixError
  E_BadMix : ErrK K mg "BadMix" "BadMix.__init__" M.C s_i_BadMix
/-! ### the law's own draws -/
/-- all but what stands at p is as it was -/
def ExB (p : Addr) (H H' : Hp) : Prop := ∀ b o, b ≠ p → H b = some o → H' b = some o
theorem ExB.refl (p : Addr) (H : Hp) : ExB p H H := fun _ _ _ h => h
theorem ExB.trans {p : Addr} {H H1 H2 : Hp} (a : ExB p H H1) (b : ExB p H1 H2) : ExB p H H2 := fun c o n h => b c o n (a c o n h)
theorem Ex.b {p : Addr} {H H1 : Hp} (a : Ex H H1) : ExB p H H1 := fun c o _ h => a c o h
theorem ExB.upd {p : Addr} {H H1 : Hp} {o : HO} (a : ExB p H H1) : ExB p H (upd H1 p o) := fun c o n h => by
  rw [upd_ne n]
  exact a c o n h
/-- the pen at p: its cells, its place, its rest -/
def Pen (H : Hp) (p a : Addr) (N : Nat) : Prop := ∃ (cs : List Int) (at_ vl : Int), H p = some (.lst [.ref a, .int at_, .int vl]) ∧ H a = some (.lst (cs.map V.int)) ∧ a ≠ p ∧ 0 ≤ at_ ∧ at_ ≤ N ∧ 0 ≤ vl ∧ cs.length ≤ 12
theorem Pen.ex {H H' : Hp} {p a : Addr} {N : Nat} (e : Ex H H') (h : Pen H p a N) : Pen H' p a N := by
  obtain ⟨cs, t, v, h1, h2, r⟩ := h
  exact ⟨cs, t, v, e _ _ h1, e _ _ h2, r⟩
theorem Pen.mono {H : Hp} {p a : Addr} {N M : Nat} (e : N ≤ M) (h : Pen H p a N) : Pen H p a M := by
  obtain ⟨cs, t, v, h1, h2, h3, h4, h5, r⟩ := h
  exact ⟨cs, t, v, h1, h2, h3, h4, by omega, r⟩
theorem Pen.hasP {H : Hp} {p a : Addr} {N : Nat} (h : Pen H p a N) : ∃ xs, H p = some (.lst xs) := by
  obtain ⟨cs, t, v, h1, _⟩ := h
  exact ⟨_, h1⟩
theorem Pen.hasC {H : Hp} {p a : Addr} {N : Nat} (h : Pen H p a N) : ∃ xs, H a = some (.lst xs) := by
  obtain ⟨cs, t, v, _, h1, _⟩ := h
  exact ⟨_, h1⟩
/-- a new or another object's store leaves it -/
theorem Pen.upd {H : Hp} {p a q : Addr} {N : Nat} {o : HO} (h : Pen H p a N) (h1 : q ≠ p) (h2 : q ≠ a) : Pen (upd H q o) p a N := by
  obtain ⟨cs, t, v, e1, e2, r⟩ := h
  exact ⟨cs, t, v, by rw [upd_ne h1.symm]; exact e1, by rw [upd_ne h2.symm]; exact e2, r⟩
/-- a tuple stays where a list changes -/
theorem tup_lst {K : PySem.W.Frag} {H H' : Hp} {p c : Addr} {xs ys : List V} (hp : H p = some (.lst xs)) (e : ExB p H H') (h : SqT K H c ys) : SqT K H' c ys := by
  rcases h with (h | ⟨o, h⟩) | h
  · exact .inl (.inl (e c _ (by rintro rfl; rw [hp] at h; cases h) h))
  · exact .inl (.inr ⟨o, e c _ (by rintro rfl; rw [hp] at h; cases h) h⟩)
  · exact .inr h
theorem Fr.lst {K : PySem.W.Frag} {H H' : Hp} {p : Addr} {xs : List V} {b : Nat} {q : Rat} {z : V} (hp : H p = some (.lst xs)) (e : ExB p H H') (h : Fr K b q z H) : Fr K b q z H' := by
  obtain ⟨c, rfl, h, x⟩ := h
  exact ⟨c, rfl, tup_lst hp e h, x⟩
/-- a way through a block, joined behind its first statement -/
theorem s_join {t u : TS} {D : Ends} {σ : L2.St} {H : Hp} (R : L2.St → Hp → Prop) (h1 : ∀ N : L2.St → Hp → Prop, (∀ σ H, R σ H → N σ H) → t { D with nx := N } σ H) (h2 : ∀ σ H, R σ H → u D σ H) : tSeq t u D σ H := h1 (u D) h2
theorem n_seq {t u : TS} {D : Ends} {σ : L2.St} {H : Hp} (h : t { D with nx := u D } σ H) : tSeq t u D σ H := h
theorem n_c {i : Nat} {v : V} {D : Ends} {σ : L2.St} {H : Hp} (h : D.nx (σ.set i (some v)) H) : tAsg (tC v) (gName i) D σ H := h
theorem atI_map {ms : List Int} {i : Int} (h0 : 0 ≤ i) (h : i < ms.length) : ∃ x, atI (ms.map V.int) i = some (.int x) := by
  obtain ⟨k, rfl⟩ : ∃ k : Nat, i = k := ⟨i.toNat, by omega⟩
  have hk : k < ms.length := by omega
  exact ⟨ms[k], atI_nat (by rw [List.getElem?_map, List.getElem?_eq_getElem hk]; rfl)⟩
def primes : List Int := [2147483629, 2147483587, 2147483579, 2147483563, 2147483549, 2147483543, 2147483497, 2147483489, 2147483477, 2147483423, 2147483399, 2147483353, 2147483323]
theorem prime_at {i : Int} (h0 : 0 ≤ i) (h : i < 13) : ∃ x : Int, atI (primes.map V.int) i = some (.int x) ∧ 0 < x ∧ x < 2147483648 := by
  have hk : ∀ k : Fin 13, ∃ x : Int, (primes.map V.int)[k.val]? = some (.int x) ∧ 0 < x ∧ x < 2147483648 := fun k => by
    have hl : k.val < primes.length := k.isLt
    refine ⟨primes[k.val], by rw [List.getElem?_map, List.getElem?_eq_getElem hl]; rfl, ?_⟩
    have : ∀ x ∈ primes, 0 < x ∧ x < 2147483648 := by decide
    exact this _ (List.getElem_mem hl)
  obtain ⟨x, e, hx⟩ := hk ⟨i.toNat, by omega⟩
  refine ⟨x, ?_, hx⟩
  have e2 := atI_nat e
  rwa [show ((i.toNat : Nat) : Int) = i by omega] at e2
theorem b64 {i : Int} (h0 : 0 ≤ i) (h : i < 18446744073709551616) : i.natAbs < 2 ^ 64 := by
  show i.natAbs < 18446744073709551616
  omega
section
variable {P : Program} {w : World} {K : PySem.W.Frag} {mg : Str → Option Value} {base : Heap}
def spSpread : Sp := fun vs H Q _ => ∃ c t : Int, vs = [.int c, .int t] ∧ 0 ≤ t ∧ t ≤ 100000 ∧ ∀ v H', 0 ≤ v → Ex H H' → Q (.int v) H'
theorem ok__law_spread (T : Txt K mg) : FnOk P w K mg base CX0 1 T.d__law_spread.a T.d__law_spread.fd ["_law_cell", "_law_k"] spSpread := by
  refine T.d__law_spread.F.ok sc__law_spread (fun vs H Q E h => ?_) (fun cdv A outer s H vs Q E hr h => ?_)
  · obtain ⟨c, t, rfl, _⟩ := h
    rfl
  · obtain ⟨c, t, rfl, h0, h1, k⟩ := h
    refine ⟨_, (pss_cons (ps_if (pt_cmpR op_ge (pv 0) (pe_op op_pow pe_int pe_int) (nomark _)) (pss_one (ps_ret (pv 0))) pss_nil)
      (pss_cons (ps_set (i := 2) sc__law_spread.nd rfl (Or.inl rfl) (pe_lst (pa_cons pe_int (pa_cons pe_int (pa_cons pe_int (pa_cons pe_int (pa_cons pe_int (pa_cons pe_int (pa_cons pe_int (pa_cons pe_int pa_nil))))))))))
      (pss_cons (ps_set (i := 2) sc__law_spread.nd rfl (Or.inl rfl) (pe_op op_cat (pv 2) (pe_lst (pa_cons pe_int (pa_cons pe_int (pa_cons pe_int (pa_cons pe_int (pa_cons pe_int pa_nil))))))))
      (pss_cons (ps_set (i := 3) sc__law_spread.nd rfl (Or.inl rfl) (pe_op op_mulW (pe_op op_mod (pe_callTy call_int1 (by rfl) T.n_int (by decide +kernel) (pa_cons (pv 0) pa_nil)) pe_int) (pe_op op_add (pe_op op_mulW pe_int (pv 1)) pe_int)))
      (pss_cons (ps_set (i := 3) sc__law_spread.nd rfl (Or.inl rfl) (pe_op op_mod (pe_callTy call_int1 (by rfl) T.n_int (by decide +kernel) (pa_cons (pe_op op_pow (pe_op op_add (pe_op op_add (pv 3) (pe_op op_mulW (pv 1) pe_int)) pe_int) pe_int) pa_nil)) (pe_ix ix_list (pv 2) (pe_op op_mod (pe_callTy call_int1 (by rfl) T.n_int (by decide +kernel) (pa_cons (pv 1) pa_nil)) pe_int) (fun _ _ => rfl))))
      (pss_cons (ps_set (i := 4) sc__law_spread.nd rfl (Or.inl rfl) (pe_op op_mod (pe_callTy call_int1 (by rfl) T.n_int (by decide +kernel) (pa_cons (pe_op op_pow (pe_op op_add (pe_op op_add (pe_op op_mulW (pv 3) (pe_op op_add (pv 1) pe_int)) (pe_op op_mod (pe_callTy call_int1 (by rfl) T.n_int (by decide +kernel) (pa_cons (pv 0) pa_nil)) pe_int)) pe_int) pe_int) pa_nil)) (pe_ix ix_list (pv 2) (pe_op op_mod (pe_callTy call_int1 (by rfl) T.n_int (by decide +kernel) (pa_cons (pe_op op_add (pv 1) pe_int) pa_nil)) pe_int) (fun _ _ => rfl))))
      (pss_cons (ps_set (i := 5) sc__law_spread.nd rfl (Or.inl rfl) (pe_op op_mod (pe_callTy call_int1 (by rfl) T.n_int (by decide +kernel) (pa_cons (pe_op op_pow (pe_op op_add (pe_op op_add (pv 4) (pe_op op_mod (pe_callTy call_int1 (by rfl) T.n_int (by decide +kernel) (pa_cons (pv 3) pa_nil)) pe_int)) (pv 1)) pe_int) pa_nil)) (pe_ix ix_list (pv 2) (pe_op op_mod (pe_callTy call_int1 (by rfl) T.n_int (by decide +kernel) (pa_cons (pe_op op_add (pv 1) pe_int) pa_nil)) pe_int) (fun _ _ => rfl))))
      (pss_one (ps_ret (pe_op op_add (pe_op op_mulW (pe_op op_add (pe_op op_mulW (pv 3) pe_int) (pv 4)) pe_int) (pv 5))))))))))), ?_⟩
    -- if cell >= 10 ** 18
    refine ⟨_, rfl, 10, 18, rfl, rfl, ⟨by decide, by decide, by decide⟩, c, _, rfl, rfl, _, rfl, ite2 (fun e => ?_) (fun e => ?_)⟩
    · have e' : (10 : Int) ^ (18 : Int).toNat ≤ c := of_decide_eq_true e
      have e2 : (10 : Int) ^ (18 : Int).toNat = 1000000000000000000 := by decide
      exact ⟨_, rfl, k c H (by omega) (Ex.refl H)⟩
    · -- the primes
      refine ⟨by show 8 ≤ sizeLine; decide, fun p1 f1 => ?_⟩
      refine ⟨.ref p1, rfl, by show 5 ≤ sizeLine; decide, fun p2 f2 => ?_⟩
      have n12 : p1 ≠ p2 := fun z => by
        rw [← z, upd_same] at f2
        cases f2
      refine ⟨p1, p2, _, _, rfl, rfl, (by rw [upd_ne n12]; exact upd_same), upd_same, (by show 13 ≤ sizeLine; decide), fun p3 f3 => ?_⟩
      have e1 : Ex H (upd (upd (upd H p1 (.lst [.int 2147483629, .int 2147483587, .int 2147483579, .int 2147483563, .int 2147483549, .int 2147483543, .int 2147483497, .int 2147483489])) p2 (.lst [.int 2147483477, .int 2147483423, .int 2147483399, .int 2147483353, .int 2147483323])) p3 (.lst ([.int 2147483629, .int 2147483587, .int 2147483579, .int 2147483563, .int 2147483549, .int 2147483543, .int 2147483497, .int 2147483489] ++ [.int 2147483477, .int 2147483423, .int 2147483399, .int 2147483353, .int 2147483323]))) :=
        ((Ex.new f1).trans (Ex.new f2)).trans (Ex.new f3)
      have hp : SqL K (upd (upd (upd H p1 (.lst [.int 2147483629, .int 2147483587, .int 2147483579, .int 2147483563, .int 2147483549, .int 2147483543, .int 2147483497, .int 2147483489])) p2 (.lst [.int 2147483477, .int 2147483423, .int 2147483399, .int 2147483353, .int 2147483323])) p3 (.lst ([.int 2147483629, .int 2147483587, .int 2147483579, .int 2147483563, .int 2147483549, .int 2147483543, .int 2147483497, .int 2147483489] ++ [.int 2147483477, .int 2147483423, .int 2147483399, .int 2147483353, .int 2147483323]))) p3 (primes.map V.int) := SqL.of upd_same
      -- mixed
      have a0 : 0 ≤ c % 1000000007 := Int.emod_nonneg _ (by decide)
      have a1 : c % 1000000007 < 1000000007 := Int.emod_lt_of_pos _ (by decide)
      generalize hc : c % 1000000007 = m at a0 a1
      have b0 : 0 ≤ m * (2 * t + 69069) := Int.mul_nonneg a0 (by omega)
      have b1 : m * (2 * t + 69069) ≤ 1000000007 * 269069 := Int.le_trans (Int.mul_le_mul_of_nonneg_right (by omega : m ≤ 1000000007) (by omega)) (Int.mul_le_mul_of_nonneg_left (by omega) (by decide))
      refine ⟨.int c, rfl, .inl ⟨c, rfl, c, 1000000007, rfl, rfl, (by decide : (0 : Int) < 1000000007), _, rfl, 2, t, rfl, rfl, mulW (a := 64) (b := 64) (b64 (by decide) (by decide)) (b64 h0 (by omega)) (by decide), 2 * t, 69069, rfl, rfl, c % 1000000007, 2 * t + 69069, rfl, rfl, (by rw [hc]; exact mulW (a := 64) (b := 64) (b64 a0 (by omega)) (b64 (by omega) (by omega)) (by decide)), ?_⟩⟩
      rw [hc]
      refine ⟨_, rfl, _, rfl, t, 40503, rfl, rfl, mulW (a := 64) (b := 64) (b64 h0 (by omega)) (b64 (by decide) (by decide)) (by decide), m * (2 * t + 69069), t * 40503, rfl, rfl, m * (2 * t + 69069) + t * 40503, 977, rfl, rfl, ?_⟩
      have m0 : 0 ≤ m * (2 * t + 69069) + t * 40503 + 977 := by omega
      have m1 : m * (2 * t + 69069) + t * 40503 + 977 < 18446744073709551616 := by omega
      -- one
      refine ⟨m * (2 * t + 69069) + t * 40503 + 977, 3, rfl, rfl, ⟨by decide, by decide, b64 m0 m1⟩, .inl ⟨_, rfl, _, rfl, _, rfl, .inl ⟨t, rfl, t, 13, rfl, rfl, (by decide : (0 : Int) < 13), ?_⟩⟩⟩
      obtain ⟨x1, g1, q1, r1⟩ := prime_at (i := t % 13) (Int.emod_nonneg _ (by decide)) (Int.emod_lt_of_pos _ (by decide))
      refine ⟨p3, _, t % 13, .int x1, rfl, rfl, hp, g1, _, x1, rfl, rfl, q1, ?_⟩
      have o0 : 0 ≤ (m * (2 * t + 69069) + t * 40503 + 977) ^ (3 : Int).toNat % x1 := Int.emod_nonneg _ (by omega)
      have o1 : (m * (2 * t + 69069) + t * 40503 + 977) ^ (3 : Int).toNat % x1 < 2147483648 := Int.lt_trans (Int.emod_lt_of_pos _ q1) r1
      dsimp only
      generalize (m * (2 * t + 69069) + t * 40503 + 977) ^ (3 : Int).toNat % x1 = o at o0 o1 ⊢
      have s0 : 0 ≤ c % 65537 := Int.emod_nonneg _ (by decide)
      have s1 : c % 65537 < 65537 := Int.emod_lt_of_pos _ (by decide)
      -- two
      have w0 : 0 ≤ o * (t + 3) := Int.mul_nonneg o0 (by omega)
      have w1 : o * (t + 3) ≤ 2147483648 * 100003 := Int.le_trans (Int.mul_le_mul_of_nonneg_right (by omega : o ≤ 2147483648) (by omega)) (Int.mul_le_mul_of_nonneg_left (by omega) (by decide))
      refine ⟨.int o, rfl, .int t, rfl, t, 3, rfl, rfl, o, t + 3, rfl, rfl, mulW (a := 64) (b := 64) (b64 o0 (by omega)) (b64 (by omega) (by omega)) (by decide), .int c, rfl, .inl ⟨c, rfl, c, 65537, rfl, rfl, (by decide : (0 : Int) < 65537), o * (t + 3), c % 65537, rfl, rfl, o * (t + 3) + c % 65537, 5, rfl, rfl, o * (t + 3) + c % 65537 + 5, 5, rfl, rfl, ⟨by decide, by decide, b64 (by omega) (by omega)⟩, .inl ⟨_, rfl, _, rfl, .int t, rfl, t, 5, rfl, rfl, .inl ⟨t + 5, rfl, t + 5, 13, rfl, rfl, (by decide : (0 : Int) < 13), ?_⟩⟩⟩⟩
      obtain ⟨x2, g2, q2, r2⟩ := prime_at (i := (t + 5) % 13) (Int.emod_nonneg _ (by decide)) (Int.emod_lt_of_pos _ (by decide))
      refine ⟨p3, _, (t + 5) % 13, .int x2, rfl, rfl, hp, g2, _, x2, rfl, rfl, q2, ?_⟩
      have u0 : 0 ≤ (o * (t + 3) + c % 65537 + 5) ^ (5 : Int).toNat % x2 := Int.emod_nonneg _ (by omega)
      have u1 : (o * (t + 3) + c % 65537 + 5) ^ (5 : Int).toNat % x2 < 2147483648 := Int.lt_trans (Int.emod_lt_of_pos _ q2) r2
      dsimp only
      generalize (o * (t + 3) + c % 65537 + 5) ^ (5 : Int).toNat % x2 = y at u0 u1 ⊢
      -- three
      have z0 : 0 ≤ o % 1009 := Int.emod_nonneg _ (by decide)
      have z1 : o % 1009 < 1009 := Int.emod_lt_of_pos _ (by decide)
      refine ⟨.int y, rfl, .int o, rfl, .inl ⟨o, rfl, o, 1009, rfl, rfl, (by decide : (0 : Int) < 1009), y, o % 1009, rfl, rfl, .int t, rfl, y + o % 1009, t, rfl, rfl, y + o % 1009 + t, 3, rfl, rfl, ⟨by decide, by decide, b64 (by omega) (by omega)⟩, .inl ⟨_, rfl, _, rfl, .int t, rfl, t, 7, rfl, rfl, .inl ⟨t + 7, rfl, t + 7, 13, rfl, rfl, (by decide : (0 : Int) < 13), ?_⟩⟩⟩⟩
      obtain ⟨x3, g3, q3, r3⟩ := prime_at (i := (t + 7) % 13) (Int.emod_nonneg _ (by decide)) (Int.emod_lt_of_pos _ (by decide))
      refine ⟨p3, _, (t + 7) % 13, .int x3, rfl, rfl, hp, g3, _, x3, rfl, rfl, q3, ?_⟩
      have v0 : 0 ≤ (y + o % 1009 + t) ^ (3 : Int).toNat % x3 := Int.emod_nonneg _ (by omega)
      dsimp only
      generalize (y + o % 1009 + t) ^ (3 : Int).toNat % x3 = y3 at v0 ⊢
      -- return
      refine ⟨.int o, rfl, o, 2147483647, rfl, rfl, mulW (a := 64) (b := 64) (b64 o0 (by omega)) (b64 (by decide) (by decide)) (by decide), .int y, rfl, o * 2147483647, y, rfl, rfl, o * 2147483647 + y, 2147483647, rfl, rfl, mulW (a := 64) (b := 64) (b64 (by omega) (by omega)) (b64 (by decide) (by decide)) (by decide), .int y3, rfl, _, y3, rfl, rfl, ?_⟩
      exact k _ _ (by omega) e1
def spTake (K : PySem.W.Frag) : Sp := fun vs H Q _ => ∃ (p a : Addr) (m : Int) (N : Nat), vs = [.ref p, .int m] ∧ Pen H p a N ∧ 0 < m ∧ m < 1073741824 ∧ N ≤ 99990 ∧ ∀ r H', 0 ≤ r → r < m → ExB p H H' → Pen H' p a (N + 1) → Q (.int r) H'
theorem ok__law_take (T : Txt K mg) : FnOk P w K mg base CX0 2 T.d__law_take.a T.d__law_take.fd ["_law_pen", "_law_many"] (spTake K) := by
  refine T.d__law_take.F.ok sc__law_take (fun vs H Q E h => ?_) (fun cdv A outer s H vs Q E hr h => ?_)
  · obtain ⟨p, a, m, N, rfl, _⟩ := h
    rfl
  · obtain ⟨p, a, m, N, rfl, ⟨cs, t, v, hp, ha, hne, t0, t1, v0, hlen⟩, m0, m1, hN, k⟩ := h
    refine ⟨_, (pss_cons (ps_if (pt_cmpR op_lt (pe_ix ix_list (pv 0) pe_int (fun _ _ => rfl)) (pv 1) (nomark _)) (pss_cons (ps_set (i := 2) sc__law_take.nd rfl (Or.inl rfl) (pe_ix ix_list (pv 0) pe_int (fun _ _ => rfl)))
      (pss_cons (ps_set (i := 3) sc__law_take.nd rfl (Or.inl rfl) pe_int)
      (pss_cons (ps_if (pt_cmpR op_lt (pv 2) (pe_callB call_len_seq (by rfl) T.n_len (by decide +kernel) (pa_cons (pe_ix ix_list (pv 0) pe_int (fun _ _ => rfl)) pa_nil)) (nomark _)) (pss_one (ps_set (i := 3) sc__law_take.nd rfl (Or.inl rfl) (pe_ix ix_list (pe_ix ix_list (pv 0) pe_int (fun _ _ => rfl)) (pv 2) (fun _ _ => rfl)))) (pss_one (ps_if (pt_cmpR op_gt (pe_callB call_len_seq (by rfl) T.n_len (by decide +kernel) (pa_cons (pe_ix ix_list (pv 0) pe_int (fun _ _ => rfl)) pa_nil)) pe_int (nomark _)) (pss_one (ps_set (i := 3) sc__law_take.nd rfl (Or.inl rfl) (pe_op op_mod (pe_callTy call_int1 (by rfl) T.n_int (by decide +kernel) (pa_cons (pe_ix ix_list (pe_ix ix_list (pv 0) pe_int (fun _ _ => rfl)) (pe_op op_mod (pe_callTy call_int1 (by rfl) T.n_int (by decide +kernel) (pa_cons (pe_op op_add (pe_op op_mulW (pv 2) pe_int) pe_int) pa_nil)) (pe_callB call_len_seq (by rfl) T.n_len (by decide +kernel) (pa_cons (pe_ix ix_list (pv 0) pe_int (fun _ _ => rfl)) pa_nil))) (fun _ _ => rfl)) pa_nil)) (pe_op op_add (pe_op op_pow pe_int pe_int) (pv 2))))) pss_nil)))
      (pss_cons (ps_asg (pe_op op_add (pv 2) pe_int) (pg_sub (pv 0) pe_int set_list))
      (pss_one (ps_asg (pe_call (ok__law_spread T) (hr.mono (by decide)) (by rfl) T.d__law_spread.g T.d__law_spread.F.kp T.d__law_spread.b .nil pass0 (pa_cons (pv 3) (pa_cons (pv 2) pa_nil))) (pg_sub (pv 0) pe_int set_list))))))) pss_nil)
      (pss_cons (ps_set (i := 4) sc__law_take.nd rfl (Or.inl rfl) (pe_op op_mod (pe_callTy call_int1 (by rfl) T.n_int (by decide +kernel) (pa_cons (pe_ix ix_list (pv 0) pe_int (fun _ _ => rfl)) pa_nil)) (pv 1)))
      (pss_cons (ps_asg (pe_op op_fdivN (pe_ix ix_list (pv 0) pe_int (fun _ _ => rfl)) (pv 1)) (pg_sub (pv 0) pe_int set_list))
      (pss_one (ps_ret (pv 4)))))), ?_⟩
    have hP : ∀ {H : Hp}, H p = some (.lst [.ref a, .int t, .int v]) → SqL K H p [.ref a, .int t, .int v] := fun h => SqL.of h
    -- behind the if: the pen holds some rest
    refine s_join (fun σ H' => ∃ s2 s3 t' v', σ = [some (.ref p), some (.int m), s2, s3, none] ∧ H' p = some (.lst [.ref a, .int t', .int v']) ∧ ExB p H H' ∧ 0 ≤ t' ∧ t' ≤ N + 1 ∧ 0 ≤ v') (fun NX hNX => ?_) ?_
    · refine ⟨.ref p, rfl, p, _, 2, .int v, rfl, rfl, hP hp, rfl, .int m, rfl, v, m, rfl, rfl, _, rfl, ite2 (fun c => ?_) (fun c => ?_)⟩
      · refine ⟨.ref p, rfl, p, _, 1, .int t, rfl, rfl, hP hp, rfl, ?_⟩
        -- cell
        show tSeq (tAsg (tC (.int 0)) (gName 3)) _ _ _ _
        refine n_seq (n_c ?_)
        dsimp only
        refine s_join (fun σ H'' => ∃ c : Int, σ = [some (.ref p), some (.int m), some (.int t), some (.int c), none] ∧ H'' = H) (fun NX2 h2 => ?_) ?_
        · refine ⟨.int t, rfl, .ref p, rfl, p, _, 0, .ref a, rfl, rfl, hP hp, rfl, a, _, rfl, .inl (SqL.of ha), t, _, rfl, rfl, _, rfl, ite2 (fun d => ?_) (fun d => ?_)⟩
          · have d' : t < (cs.map V.int).length := of_decide_eq_true d
            rw [List.length_map] at d'
            obtain ⟨x, hx⟩ := atI_map (ms := cs) t0 d'
            exact ⟨.ref p, rfl, p, _, 0, .ref a, rfl, rfl, hP hp, rfl, .int t, rfl, a, _, t, .int x, rfl, rfl, SqL.of ha, hx, h2 _ _ ⟨x, rfl, rfl⟩⟩
          · refine ⟨.ref p, rfl, p, _, 0, .ref a, rfl, rfl, hP hp, rfl, a, _, rfl, .inl (SqL.of ha), _, 0, rfl, rfl, _, rfl, ite2 (fun f => ?_) (fun f => ?_)⟩
            · have f' : 0 < ((cs.map V.int).length : Int) := of_decide_eq_true f
              have f2 := f'
              rw [List.length_map] at f2
              obtain ⟨x, hx⟩ := atI_map (ms := cs) (i := (t * 5 + 3) % (cs.length : Int)) (Int.emod_nonneg _ (by omega)) (Int.emod_lt_of_pos _ f2)
              refine ⟨.ref p, rfl, p, _, 0, .ref a, rfl, rfl, hP hp, rfl, .int t, rfl, t, 5, rfl, rfl, mulW (a := 64) (b := 64) (b64 t0 (by omega)) (b64 (by decide) (by decide)) (by decide), t * 5, 3, rfl, rfl, .inl ⟨t * 5 + 3, rfl, .ref p, rfl, p, _, 0, .ref a, rfl, rfl, hP hp, rfl, a, _, rfl, .inl (SqL.of ha), _, _, rfl, rfl, f', ?_⟩⟩
              rw [List.length_map]
              refine ⟨a, _, (t * 5 + 3) % (cs.length : Int), .int x, rfl, rfl, SqL.of ha, hx, .inl ⟨x, rfl, 10, 17, rfl, rfl, ⟨by decide, by decide, by decide⟩, .int t, rfl, _, t, rfl, rfl, x, _, rfl, rfl, ?_, h2 _ _ ⟨_, rfl, rfl⟩⟩⟩
              have e2 : (10 : Int) ^ (17 : Int).toNat = 100000000000000000 := by decide
              show (0 : Int) < (10 : Int) ^ (17 : Int).toNat + t
              omega
            · exact h2 _ _ ⟨0, rfl, rfl⟩
        rintro σ H'' ⟨c1, rfl, rfl⟩
        -- pen[1] = at + 1
        refine ⟨.int t, rfl, t, 1, rfl, rfl, .ref p, rfl, p, _, 1, 1, rfl, rfl, hp, rfl, ?_⟩
        -- pen[2] = spread(cell, at)
        refine ⟨.int c1, rfl, .int t, rfl, c1, t, rfl, t0, by omega, fun v' H3 w0 e3 => ?_⟩
        refine ⟨.ref p, rfl, p, [.ref a, .int (t + 1), .int v], 2, 2, rfl, rfl, e3 _ _ upd_same, rfl, ?_⟩
        exact hNX _ _ ⟨_, _, t + 1, v', rfl, upd_same, ((ExB.upd (ExB.refl p H'')).trans (Ex.b e3)).upd, by omega, by omega, w0⟩
      · exact hNX _ _ ⟨_, _, t, v, rfl, hp, ExB.refl p H, t0, by omega, v0⟩
    · rintro σ H' ⟨s2, s3, t', v', rfl, hp', eb, a0, a1, b0⟩
      have hS : SqL K H' p [.ref a, .int t', .int v'] := SqL.of hp'
      refine ⟨.ref p, rfl, p, _, 2, .int v', rfl, rfl, hS, rfl, .inl ⟨v', rfl, .int m, rfl, v', m, rfl, rfl, m0, ?_⟩⟩
      refine ⟨.ref p, rfl, p, _, 2, .int v', rfl, rfl, hS, rfl, .int m, rfl, v', m, rfl, rfl, ⟨by omega, by omega⟩, .ref p, rfl, p, _, 2, 2, rfl, rfl, hp', rfl, ?_⟩
      refine ⟨_, rfl, k _ _ (Int.emod_nonneg _ (by omega)) (Int.emod_lt_of_pos _ m0) eb.upd ⟨cs, t', _, upd_same, ?_, hne, a0, by omega, ?_, hlen⟩⟩
      · rw [upd_ne hne]
        exact eb _ _ hne ha
      · rw [Int.fdiv_eq_ediv_of_nonneg v' (by omega)]
        exact Int.ediv_nonneg b0 (by omega)
def spOne (K : PySem.W.Frag) : Sp := fun vs H Q _ => ∃ (p a s : Addr) (xs : List V) (N : Nat), vs = [.ref p, .ref s] ∧ Pen H p a N ∧ H s = some (.lst xs) ∧ s ≠ p ∧ 0 < xs.length ∧ xs.length < 1073741824 ∧ N ≤ 99990 ∧ ∀ (x : V) (H' : Hp), x ∈ xs → ExB p H H' → Pen H' p a (N + 1) → Q x H'
theorem ok__law_one_of (T : Txt K mg) : FnOk P w K mg base CX0 3 T.d__law_one_of.a T.d__law_one_of.fd ["_law_pen", "_law_some"] (spOne K) := by
  refine T.d__law_one_of.F.ok sc__law_one_of (fun vs H Q E h => ?_) (fun cdv A outer s H vs Q E hr h => ?_)
  · obtain ⟨p, a, s, xs, N, rfl, _⟩ := h
    rfl
  · obtain ⟨p, a, s, xs, N, rfl, hp, hs, hsp, l0, l1, hN, k⟩ := h
    refine ⟨_, (pss_one (ps_ret (pe_ix ix_list (pv 1) (pe_call (ok__law_take T) (hr.mono (by decide)) (by rfl) T.d__law_take.g T.d__law_take.F.kp T.d__law_take.b .nil pass0 (pa_cons (pv 0) (pa_cons (pe_callB call_len_seq (by rfl) T.n_len (by decide +kernel) (pa_cons (pv 1) pa_nil)) pa_nil))) (fun _ _ => rfl)))), ?_⟩
    refine ⟨_, rfl, _, rfl, .ref s, rfl, s, xs, rfl, .inl (SqL.of hs), p, a, _, N, rfl, hp, by omega, by omega, hN, fun r H' r0 r1 eb hp' => ?_⟩
    have hk : r.toNat < xs.length := by omega
    have hx := atI_nat (List.getElem?_eq_getElem hk)
    rw [show ((r.toNat : Nat) : Int) = r by omega] at hx
    exact ⟨s, xs, r, _, rfl, rfl, SqL.of (eb _ _ hsp hs), hx, k _ H' (List.getElem_mem hk) eb hp'⟩
theorem cut_map (ms : List Int) (lo hi : Option Int) : cutV (ms.map V.int) lo hi = ((ms.drop (HT.sIx ms.length 0 lo)).take (HT.sIx ms.length ms.length hi - HT.sIx ms.length 0 lo)).map V.int := by
  unfold cutV
  rw [List.length_map, ← List.map_drop, ← List.map_take]
def spOpen (K : PySem.W.Frag) : Sp := fun vs H Q _ => ∃ (a : Addr) (ns : List Int), vs = [.ref a] ∧ SqL K H a (ns.map V.int) ∧ ns.length ≤ 63 ∧ ∀ p c H', Ex H H' → Pen H' p c 0 → H p = none → Q (.ref p) H'
theorem ok__law_open (T : Txt K mg) : FnOk P w K mg base CX0 1 T.d__law_open.a T.d__law_open.fd ["_law_script"] (spOpen K) := by
  refine T.d__law_open.F.ok sc__law_open (fun vs H Q E h => ?_) (fun cdv A outer s H vs Q E hr h => ?_)
  · obtain ⟨a, ns, rfl, _⟩ := h
    rfl
  · obtain ⟨a, ns, rfl, hS, hl, k⟩ := h
    refine ⟨_, (pss_cons (ps_set (i := 1) sc__law_open.nd rfl (Or.inl rfl) (pe_callTy call_list_of (by rfl) T.n_list (by decide +kernel) (pa_cons (pe_slice sl_list (pv 0) po_none (po_some pe_int)) pa_nil)))
      (pss_cons (ps_for PassesOwn.never rfl (pi_enum (by rfl) T.n_enumerate (pa_cons (pe_slice sl_list (pv 0) (po_some pe_int) (po_some pe_int)) pa_nil)) (pg_tup (by rfl) (pgs_cons (pg_name (i := 2) sc__law_open.nd rfl (Or.inl rfl)) (pgs_cons (pg_name (i := 3) sc__law_open.nd rfl (Or.inl rfl)) pgs_nil))) (pss_one (ps_asg (pe_op op_add (pe_ix ix_list (pv 1) (pe_op op_mod (pe_callTy call_int1 (by rfl) T.n_int (by decide +kernel) (pa_cons (pv 2) pa_nil)) pe_int) (fun _ _ => rfl)) (pv 3)) (pg_sub (pv 1) (pe_op op_mod (pe_callTy call_int1 (by rfl) T.n_int (by decide +kernel) (pa_cons (pv 2) pa_nil)) pe_int) set_list))))
      (pss_one (ps_ret (pe_lst (pa_cons (pv 1) (pa_cons pe_int (pa_cons pe_int pa_nil)))))))), ?_⟩
    -- cells = list(script[:12])
    have e0 : ∀ n : Nat, HT.sIx n 0 none = 0 := fun n => HT.sIx_none n 0
    have e12 : HT.sIx ns.length ns.length (some 12) = min 12 ns.length := HT.sIx_nat ns.length ns.length 12
    have e12' : HT.sIx ns.length 0 (some 12) = min 12 ns.length := HT.sIx_nat ns.length 0 12
    generalize hms : (ns.drop (HT.sIx ns.length 0 (some 12))).take (HT.sIx ns.length ns.length (some 63) - HT.sIx ns.length 0 (some 12)) = ms
    have cm : cutV (ns.map V.int) (some 12) (some 63) = ms.map V.int := by
      rw [cut_map, hms]
    have cc : cutV (ns.map V.int) none (some 12) = (ns.take (min 12 ns.length)).map V.int := by
      rw [cut_map, e0, e12, List.drop_zero, Nat.sub_zero]
    have hml : 0 < ms.length → 12 ≤ ns.length := fun z => by
      rw [← hms, List.length_take, List.length_drop, e12'] at z
      omega
    refine ⟨.ref a, rfl, 12, rfl, a, _, rfl, hS, fun p1 f1 => ?_⟩
    rw [cc]
    have x1 := Ex.new (o := .lst ((ns.take (min 12 ns.length)).map V.int)) f1
    refine ⟨p1, _, rfl, .inl (SqL.of upd_same), fun p2 f2 => ?_⟩
    have x2 := Ex.new (o := .lst ((ns.take (min 12 ns.length)).map V.int)) f2
    have n2 : H p2 = none := fresh_back x1 f2
    -- for k, cell in enumerate(script[12:63])
    refine ⟨.ref a, rfl, 12, rfl, 63, rfl, a, _, rfl, ex_l (x1.trans x2) hS, fun p3 f3 => ?_⟩
    rw [cm]
    have x3 := Ex.new (o := .lst (ms.map V.int)) f3
    have n32 : p2 ≠ p3 := fun z => by
      rw [← z, upd_same] at f3
      cases f3
    have n3 : H p3 = none := fresh_back (x1.trans x2) f3
    refine ⟨p3, _, rfl, SqL.of upd_same, ?_⟩
    refine ⟨fun i m σ H' => m = ms.length - i ∧ i ≤ ms.length ∧ ∃ (s2 s3 : Option V) (cs : List Int), σ = [some (.ref a), some (.ref p2), s2, s3] ∧ Ex H H' ∧ H' p3 = some (.lst (ms.map V.int)) ∧ H' p2 = some (.lst (cs.map V.int)) ∧ cs.length = min 12 ns.length,
      ⟨ms.length, by omega, Nat.zero_le _, none, none, ns.take (min 12 ns.length), rfl, (x1.trans x2).trans x3, upd_same, by rw [upd_ne n32]; exact upd_same, by rw [List.length_take]; omega⟩, ?_⟩
    rintro i m σ H' ⟨rfl, hi, s2, s3, cs, rfl, ex, h3, h2, hcl⟩
    by_cases hlt : i < ms.length
    · refine .inr ⟨⟨_, V.int ms[i], SqL.of h3, by rw [List.getElem?_map, List.getElem?_eq_getElem hlt]; rfl⟩, fun σ' H'' => ∃ (s2 s3 : Option V) (cs : List Int), σ' = [some (.ref a), some (.ref p2), s2, s3] ∧ Ex H H'' ∧ H'' p3 = some (.lst (ms.map V.int)) ∧ H'' p2 = some (.lst (cs.map V.int)) ∧ cs.length = min 12 ns.length, fun σ' H'' q => ⟨ms.length - (i + 1), by omega, rfl, hlt, q⟩, fun x H'' y => ?_⟩
      obtain ⟨t, z, rfl, ft, rfl, hz⟩ := y
      have ez : z = V.int ms[i] := by
        have := hz _ (SqL.of h3)
        rw [List.getElem?_map, List.getElem?_eq_getElem hlt] at this
        exact (Option.some.inj this).symm
      subst ez
      have nt2 : p2 ≠ t := ne_of_none h2 ft
      have nt3 : p3 ≠ t := ne_of_none h3 ft
      have x4 := Ex.new (o := .tup [.int (i : Nat), .int ms[i]]) ft
      have g2 := x4 _ _ h2
      have hc12 : cs.length = 12 := by
        have := hml (by omega)
        omega
      have z0 : 0 ≤ (i : Int) % 12 := Int.emod_nonneg _ (by decide)
      have z1 : (i : Int) % 12 < 12 := Int.emod_lt_of_pos _ (by decide)
      obtain ⟨c, hc⟩ := atI_map (ms := cs) z0 (by omega)
      refine ⟨t, _, rfl, SqT.of upd_same, rfl, _, _, rfl, _, _, rfl, rfl, ?_⟩
      -- cells[k % 12] = cells[k % 12] + cell
      refine ⟨_, rfl, _, rfl, .inl ⟨_, rfl, _, 12, rfl, rfl, (by decide : (0 : Int) < 12), p2, _, (i : Int) % 12, .int c, rfl, rfl, SqL.of g2, hc, _, rfl, c, ms[i], rfl, rfl, ?_⟩⟩
      refine ⟨_, rfl, _, rfl, .inl ⟨_, rfl, _, 12, rfl, rfl, (by decide : (0 : Int) < 12), p2, _, (i : Int) % 12, ((i : Int) % 12).toNat, rfl, rfl, g2, ?_, ?_⟩⟩
      · unfold ixN
        rw [if_pos z0, if_pos (by rw [List.length_map]; omega)]
      · refine ⟨_, _, cs.set ((i : Int) % 12).toNat (c + ms[i]), rfl, ?_, ?_, ?_, ?_⟩
        · intro b o hb
          rw [upd_ne (ne_of_none hb n2)]
          exact x4 _ _ (ex _ _ hb)
        · rw [upd_ne n32.symm]
          exact x4 _ _ h3
        · rw [upd_same, List.map_set]
        · rw [List.length_set]
          exact hcl
    · refine .inl ⟨⟨_, SqL.of h3, by rw [List.length_map]; omega⟩, ?_⟩
      -- return [cells, 0, 0]
      refine ⟨_, rfl, by show 3 ≤ sizeLine; decide, fun p4 f4 => ?_⟩
      have n4 : p2 ≠ p4 := ne_of_none h2 f4
      exact k p4 p2 _ (ex.trans (Ex.new f4)) ⟨cs, 0, 0, upd_same, by rw [upd_ne n4]; exact h2, n4, by omega, by omega, by omega, by omega⟩ (fresh_back ex f4)
end
/-! ### the program: onenumber.errors, onenumber.amounts, for any data -/
/-- an error of the class at C that keeps v, raised from H on -/
def Er (C : Addr) (v : V) (H : Hp) (E : XK) : Prop := ∀ dd k H', Ex H H' → H' dd = some (.xd (kd k v)) → E (.ref C) (some dd) H'
theorem Er.ex {C : Addr} {v : V} {H H1 : Hp} {E : XK} (e : Ex H H1) (h : Er C v H E) : Er C v H1 E := fun dd k H' e' q => h dd k H' (e.trans e') q
theorem rd_raise {C : Addr} {v : V} {σ : L2.St} {H : Hp} {i : Nat} {E : XK} (hv : σ[i]? = some (some v)) (k : Er C v H E) : tMkO C (spInit C) [] (tCons (tVar i) tNil) σ H E := by
  refine ⟨v, hv, by show 1 ≤ 1000; decide, fun a ha => ⟨a, v, rfl, upd_same, fun dx kn H' h1 ne e1 e2 keep => ⟨rfl, dx, _, e1, e2, ?_, ?_⟩⟩⟩
  · rw [upd_ne ne] at h1
    exact h1
  · rw [upd_ne ne] at h1
    refine k dx kn _ (fun b o hb => ?_) upd_same
    have n1 : b ≠ a := ne_of_none hb ha
    rw [upd_ne (ne_of_none hb h1), del_ne n1]
    exact keep b o n1 (by rw [upd_ne n1]; exact hb)
def ival : PyData → Int
  | .int n => n
  | _ => 0
section
variable {K : PySem.W.Frag} {p : Addr} {H H' : Hp} {v : V} {d : PyData} {σ : L2.St} {i : Nat} {b : Bool}
theorem Dq.ival (h : Dq K p H v d) (hw : isWh d = true) : v = .int (ival d) ∧ d = .int (Jf.ival d) := by
  cases h with
  | int n => exact ⟨rfl, rfl⟩
  | _ => cases hw
theorem ev_isi {T : String} (hv : σ[i]? = some (some v)) (hd : Dq K p H v d) (hk : kitB (tyName d) T = some b) : Ev (tCB (rIsi K) (tCons (tVar i) (tCons (tC (.ty T)) tNil))) σ H (.bl b) :=
  fun H1 e Q k => ⟨v, hv, v, .ty T, .type (tyName d), .type T, b, rfl, .ty _, (Dq.ex e _ _ hd).ty, kit_ty hk, k H1 (Ex.refl H1)⟩
def spIsD (K : PySem.W.Frag) (sm : PyData → Prop) (f : PyData → Bool) : Sp := fun vs H Q _ => ∃ (p : Addr) (v : V) (d : PyData), vs = [v] ∧ Dq K p H v d ∧ sm d ∧ ∀ H', Ex H H' → Q (.bl (f d)) H'
theorem ev_isD {E : XK} {sm : PyData → Prop} {f : PyData → Bool} {te : TE} (he : Ev te σ H v) (hd : Dq K p H v d) (hs : sm d) : Ev (tCall (spIsD K sm f) [] E (tCons te tNil)) σ H (.bl (f d)) :=
  fun H1 e Q k => he H1 e _ fun H2 e2 => ⟨p, v, d, rfl, Dq.ex (e.trans e2) _ _ hd, hs, fun H' e' => k H' (e2.trans e')⟩
/-- nothing asked -/
def Any (_ : PyData) : Prop := True
def spReq (K : PySem.W.Frag) (C : Addr) (f : PyData → Bool) : Sp := fun vs H Q E => ∃ (p : Addr) (v : V) (d : PyData), vs = [v] ∧ Dq K p H v d ∧ (f d = true → ∀ H', Ex H H' → Q .non H') ∧ (f d = false → Er C v H E)
/-- two fractions, or none -/
def spX (K : PySem.W.Frag) (C : Addr) (ok : Rat → Prop) (R : Rat → Rat → V → Hp → Prop) : Sp := fun vs H Q E => ∃ (p : Addr) (u v : V) (d e : PyData), vs = [u, v] ∧ Dq K p H u d ∧ Dq K p H v e ∧ Bd 100 (frQ d) ∧ Bd 100 (frQ e) ∧
  (frB d = false → Er C u H E) ∧ (frB d = true → frB e = false → Er C v H E) ∧ (frB d = true → frB e = true → ¬ ok (frQ e) → Er C v H E) ∧
  (frB d = true → frB e = true → ok (frQ e) → ∀ z H', Ex H H' → R (frQ d) (frQ e) z H' → Q z H')
end
section
variable {P : Program} {w : World} {K : PySem.W.Frag} {mg : Str → Option Value} {base : Heap}
end
section
variable {P : Program} {w : World} {K : PySem.W.Frag} {mg : Str → Option Value} {base : Heap}
theorem ok_i_MixError (T : Txt K mg) : FnOk P w K mg base CX0 1 T.M.f T.M.fd ["self", "value"] (spInitM K) := by
  refine T.M.F.ok sc_i_MixError (fun vs H Q E h => ?_) (fun cdv A outer s H vs Q E hr h => ?_)
  · obtain ⟨C, a, v, nm, rfl, _⟩ := h
    rfl
  · obtain ⟨C, a, v, nm, rfl, ox, nv, nk, NM, ha, k⟩ := h
    refine ⟨_, pss_cons (ps_expr (pe_veinit (by rfl) T.n_ValueError T.v_VE (pa_cons (pv 0) (pa_cons pe_str pa_nil)))) (pss_cons (ps_ost (pv 0) (pv 1)) (pss_one (ps_ost (pv 0) (pe_nm (pv 0))))), ?_⟩
    refine ⟨_, rfl, a, C, _, rfl, by show 1 ≤ 1000; decide, ox, ha, ?_⟩
    refine ⟨v, rfl, .ref a, rfl, a, C, rfl, ox, nv, .inl ⟨ha, fun dx hdx ne => ?_⟩⟩
    have ed : (upd (upd H dx (exd dx [(("value" : Str), v)])) a (exo a C (some dx))) dx = some (exd dx [(("value" : Str), v)]) := by rw [upd_ne ne]; exact upd_same
    refine ⟨.ref a, rfl, a, C, dx, _, nm, rfl, NM, upd_same, ed, .ref a, rfl, a, C, rfl, ox, nk, .inr ⟨dx, _, upd_same, ed, by show 1 ≤ 900; decide, ?_⟩⟩
    refine k dx nm _ hdx ne (by rw [upd_ne ne.symm]; exact upd_same) upd_same fun b o hb h => ?_
    rw [upd_ne (ne_of_none h hdx), upd_ne hb, upd_ne (ne_of_none h hdx)]
    exact h
theorem ok_i_BadMix (T : Txt K mg) : FnOk P w K mg base CX0 2 T.E_BadMix.f T.E_BadMix.fd ["self", "value"] (spInit T.E_BadMix.C) := by
  refine T.E_BadMix.F.ok sc_i_BadMix (fun vs H Q E h => ?_) (fun cdv A outer s H vs Q E hr h => ?_)
  · obtain ⟨a, v, rfl, _⟩ := h
    rfl
  · obtain ⟨a, v, rfl, ha, k⟩ := h
    refine ⟨_, pss_one (ps_expr (pe_clsdef (by rfl) T.M.g T.M.rd T.M.ga T.M.fi T.M.kp (ok_i_MixError T) (hr.mono (by decide)) T.M.b pass0 (pa_cons (pv 0) (pa_cons (pv 1) pa_nil)))), ?_⟩
    exact ⟨_, rfl, _, rfl, T.E_BadMix.C, a, v, _, rfl, T.E_BadMix.x.oex, T.E_BadMix.x.noV, T.E_BadMix.x.noK, T.E_BadMix.x.nm, ha, k⟩
end
section
variable {P : Program} {w : World} {K : PySem.W.Frag} {mg : Str → Option Value} {base : Heap}
theorem ok_is_whole (T : Txt K mg) : FnOk P w K mg base CX0 1 T.d_is_whole.a T.d_is_whole.fd ["value"] (spIsD K Any isWh) := by
  refine T.d_is_whole.F.ok sc_is_whole (fun vs H Q E h => ?_) (fun cdv A outer s H vs Q E hr h => ?_)
  · obtain ⟨p, v, d, rfl, _⟩ := h
    rfl
  · obtain ⟨p, v, d, rfl, hd, _, k⟩ := h
    refine ⟨_, (pss_one (ps_ret (pe_and (pe_callB call_isi (by rfl) T.n_isinstance (by decide +kernel) (pa_cons (pv 0) (pa_cons (pe_bltn (v := .ty "int") (by rfl) T.n_int (by decide +kernel) rfl) pa_nil))) (pe_one (pe_not (pe_callB call_isi (by rfl) T.n_isinstance (by decide +kernel) (pa_cons (pv 0) (pa_cons (pe_bltn (v := .ty "bool") (by rfl) T.n_bool (by decide +kernel) rfl) pa_nil)))))))), ?_⟩
    refine s_ret (ev_andV (ev_isi rfl hd (kit_int d)) fun _ => ev_notV (ev_isi rfl hd (kit_bool d))) fun H1 e => ?_
    rw [wh_eq]
    exact k H1 e
theorem ok_is_fraction (T : Txt K mg) : FnOk P w K mg base CX0 2 T.d_is_fraction.a T.d_is_fraction.fd ["value"] (spIsD K Any frB) := by
  refine T.d_is_fraction.F.ok sc_is_fraction (fun vs H Q E h => ?_) (fun cdv A outer s H vs Q E hr h => ?_)
  · obtain ⟨p, v, d, rfl, _⟩ := h
    rfl
  · obtain ⟨p, v, d, rfl, hd, _, k⟩ := h
    refine ⟨_, (pss_cons (ps_if (PW.pt (pw_or (pt_not (pt_val (pe_callB call_isi (by rfl) T.n_isinstance (by decide +kernel) (pa_cons (pv 0) (pa_cons (pe_bltn (v := .ty "tuple") (by rfl) T.n_tuple (by decide +kernel) rfl) pa_nil))))) (pw_or1 (pt_cmpR op_ne (pe_callB call_len_seq (by rfl) T.n_len (by decide +kernel) (pa_cons (pv 0) pa_nil)) pe_int (nomark _))))) (pss_one (ps_ret pe_bl)) pss_nil)
      (pss_cons (ps_asg (pv 0) (pg_tup (by rfl) (pgs_cons (pg_name (i := 1) sc_is_fraction.nd rfl (Or.inl rfl)) (pgs_cons (pg_name (i := 2) sc_is_fraction.nd rfl (Or.inl rfl)) pgs_nil))))
      (pss_cons (ps_if (PW.pt (pw_or (pt_not (pt_val (pe_call (ok_is_whole T) (hr.mono (by decide)) (by rfl) T.d_is_whole.g T.d_is_whole.F.kp T.d_is_whole.b .nil pass0 (pa_cons (pv 1) pa_nil)))) (pw_or (pt_not (pt_val (pe_call (ok_is_whole T) (hr.mono (by decide)) (by rfl) T.d_is_whole.g T.d_is_whole.F.kp T.d_is_whole.b .nil pass0 (pa_cons (pv 2) pa_nil)))) (pw_or1 (pt_cmpR op_le (pv 2) pe_int (nomark _)))))) (pss_one (ps_ret pe_bl)) pss_nil)
      (pss_one (ps_ret (pe_cmpR op_eq (pe_callBfun cr_gcd (by rfl) T.n_gcd (pa_cons (pv 1) (pa_cons (pv 2) pa_nil))) pe_int (nomark _))))))), ?_⟩
    by_cases ht : isTup d = true
    · cases hd with
      | @tup a xs ds hS hA =>
        by_cases h2 : xs.length = 2
        · have h2' := h2
          rw [hA.len] at h2'
          obtain ⟨x1, x2, rfl⟩ : ∃ x1 x2, xs = [x1, x2] := match xs, h2 with | [x1, x2], _ => ⟨x1, x2, rfl⟩
          obtain ⟨d1, d2, rfl⟩ : ∃ d1 d2, ds = [d1, d2] := match ds, h2' with | [d1, d2], _ => ⟨d1, d2, rfl⟩
          have hD : Dq K p H (.ref a) (.tuple [d1, d2]) := .tup hS hA
          obtain ⟨q1, q2⟩ : Dq K p H x1 d1 ∧ Dq K p H x2 d2 := by
            cases hA with
            | cons a b =>
              cases b with
              | cons b c => exact ⟨a, b⟩
          refine s_if (b := false) (et_is (et_or (et_not (et_B (ev_isi rfl hD (kit_tup _)))) fun _ => et_test (fun H1 e Q k => ⟨_, rfl, a, _, rfl, .inr (ex_t e hS), rfl, k H1 (Ex.refl H1)⟩)) rfl) (fun z => nomatch z) fun _ H1 e1 => ?_
          refine ⟨_, rfl, a, [x1, x2], rfl, ex_t e1 hS, rfl, _, _, rfl, _, _, rfl, rfl, ?_⟩
          have r1 := Dq.ex e1 _ _ q1
          have r2 := Dq.ex e1 _ _ q2
          have hlt : isWh d2 = true → x2 = .int (ival d2) := fun z => (r2.ival z).1
          refine s_if (b := !isWh d1 || (!isWh d2 || decide (ival d2 ≤ 0))) (et_or (et_not (et_B (ev_isD (ev_var rfl) r1 trivial))) fun _ => et_or (et_not (et_B (ev_isD (ev_var rfl) r2 trivial))) fun z => et_test (by
            have z' : isWh d2 = true := by simpa using z
            have hx := hlt z'
            subst hx
            exact ev_op (ev_var rfl) ev_c rv_I0)) (fun z H2 e2 => ?_) (fun z H2 e2 => ?_)
          · have e : frB (.tuple [d1, d2]) = false := by
              cases d1 with
              | int n =>
                cases d2 with
                | int m =>
                  have z' : decide (m ≤ 0) = true := z
                  have : ¬ 0 < m := by
                    have := of_decide_eq_true z'
                    omega
                  simp [frB, this]
                | _ => rfl
              | _ => rfl
            rw [e] at k
            exact k H2 (e1.trans e2)
          · have w1 : isWh d1 = true := by
              cases h : isWh d1 with
              | true => rfl
              | false =>
                rw [h] at z
                cases z
            have w2 : isWh d2 = true := by
              cases h : isWh d2 with
              | true => rfl
              | false =>
                rw [h, w1] at z
                cases z
            obtain ⟨g1, g2⟩ := r1.ival w1
            obtain ⟨g3, g4⟩ := r2.ival w2
            rw [w1, w2] at z
            have z' : ¬ ival d2 ≤ 0 := of_decide_eq_false (by simpa using z)
            generalize ival d1 = n at g1 g2
            generalize ival d2 = m at g3 g4 z'
            subst g1 g2 g3 g4
            refine ⟨_, rfl, _, rfl, n, m, rfl, rfl, ?_⟩
            have e : frB (.tuple [.int n, .int m]) = decide (V.int ((Nat.gcd n.natAbs m.natAbs : Nat) : Int) = V.int 1) := by
              simp only [frB]
              rw [decide_eq_true (by omega : 0 < m), Bool.true_and]
              rw [Bool.eq_iff_iff, decide_eq_true_iff, decide_eq_true_iff]
              constructor
              · intro h
                rw [h]
                rfl
              · intro h
                have := V.int.inj h
                omega
            rw [e] at k
            exact k H2 (e1.trans e2)
        · refine s_if (b := true) (et_is (et_or (et_not (et_B (ev_isi rfl (.tup hS hA) (kit_tup _)))) fun _ => et_test (fun H1 e Q k => ⟨_, rfl, a, _, rfl, .inr (ex_t e hS), rfl, k H1 (Ex.refl H1)⟩)) ?_) (fun _ H1 e1 => ?_) (fun z => nomatch z)
          · have : ¬ V.int (xs.length : Int) = V.int 2 := fun z => h2 (by
              have := V.int.inj z
              omega)
            simp [isTup, this]
          · have e : frB (.tuple ds) = false := by
              have := hA.len
              match ds, this with
              | [], _ => rfl
              | [_], _ => simp [frB]
              | [_, _], h => exact absurd h h2
              | _ :: _ :: _ :: _, _ => simp [frB]
            rw [e] at k
            exact k H1 e1
      | _ => cases ht
    · have e : frB d = false := by
        cases d <;> (first | rfl | exact absurd rfl ht)
      have ht' : isTup d = false := by simpa using ht
      refine s_if (b := true) (et_is (et_or (b := false) (et_not (et_B (ev_isi rfl hd (kit_tup d)))) fun z => ?_) ?_) (fun _ H1 e1 => ?_) (fun z => nomatch z)
      · rw [ht'] at z
        cases z
      · rw [ht']
        rfl
      · rw [e] at k
        exact k H1 e1
end
/-! ### the program: onenumber.amounts, onenumber.terms: what has the form of a term -/
def posB (d : PyData) : Bool := frB d && decide (0 < (frQ d).num)
def outB : PyData → Bool
  | .tuple [w, _] => posB w
  | _ => false
def stepB : List PyData → Bool
  | [_, q, .tuple os] => frB q && (decide (os.length ≤ 3) && os.all outB)
  | _ => false
def allB : List PyData → Bool
  | [_, .tuple ts] => decide (2 ≤ ts.length) && decide (ts.length ≤ 3)
  | _ => false
section
variable {K : PySem.W.Frag} {p : Addr} {H : Hp} {v : V} {d : PyData} {σ : L2.St} {i : Nat}
theorem Dq.seq {ds : List PyData} (h : Dq K p H v (.tuple ds)) : ∃ a xs, v = .ref a ∧ SqT K H a xs ∧ DqAll K p H xs ds := by
  cases h with
  | tup hS hA => exact ⟨_, _, rfl, hS, hA⟩
theorem ev_lenT {ds : List PyData} (hv : σ[i]? = some (some v)) (hd : Dq K p H v (.tuple ds)) : Ev (tCB (fun xs H_1 Q => ∃ p ys, xs = [V.ref p] ∧ (SqL K H_1 p ys ∨ SqT K H_1 p ys) ∧ Q (V.int ys.length) H_1) (tCons (tVar i) tNil)) σ H (.int (ds.length : Int)) := fun H1 e Q k => by
  obtain ⟨a, xs, rfl, hS, hA⟩ := hd.seq
  refine ⟨_, hv, a, xs, rfl, .inr (ex_t e hS), ?_⟩
  rw [hA.len]
  exact k H1 (Ex.refl H1)
theorem DqAll.get : ∀ {vs : List V} {ds : List PyData} {j : Nat} {dj : PyData}, DqAll K p H vs ds → ds[j]? = some dj → ∃ x, vs[j]? = some x ∧ Dq K p H x dj
  | _, _, j, dj, .nil, e => by simp at e
  | _, _, 0, dj, .cons h hs, e => by
    simp only [List.getElem?_cons_zero, Option.some.injEq] at e
    subst e
    exact ⟨_, rfl, h⟩
  | _, _, j + 1, dj, .cons h hs, e => by
    simp only [List.getElem?_cons_succ] at e ⊢
    exact DqAll.get hs e
/-- an item of a tuple -/
theorem ed_ix {ds : List PyData} {j : Nat} {dj : PyData} (hv : σ[i]? = some (some v)) (hd : Dq K p H v (.tuple ds)) (e : ds[j]? = some dj) : EvP (tOp (rIxT K) (tVar i) (tC (.int (j : Int)))) σ H (fun x H' => Dq K p H' x dj) := fun H1 e1 Q k => by
  obtain ⟨a, xs, rfl, hS, hA⟩ := hd.seq
  obtain ⟨x, hx, q⟩ := hA.get e
  exact ⟨_, hv, a, xs, j, x, rfl, rfl, ex_t e1 hS, atI_nat hx, k x H1 (Ex.refl _) (Dq.ex e1 _ _ q)⟩
theorem ev_isDp {E : XK} {sm : PyData → Prop} {f : PyData → Bool} {te : TE} (he : EvP te σ H fun x H' => Dq K p H' x d) (hs : sm d) : Ev (tCall (spIsD K sm f) [] E (tCons te tNil)) σ H (.bl (f d)) :=
  fun H1 e Q k => he H1 e _ fun x H2 e2 q => ⟨p, x, d, rfl, q, hs, fun H' e' => k H' (e2.trans e')⟩
end
section
variable {P : Program} {w : World} {K : PySem.W.Frag} {mg : Str → Option Value} {base : Heap}
theorem ok_is_above_zero (T : Txt K mg) : FnOk P w K mg base CX0 3 T.d_is_above_zero.a T.d_is_above_zero.fd ["value"] (spIsD K Any posB) := by
  refine T.d_is_above_zero.F.ok sc_is_above_zero (fun vs H Q E h => ?_) (fun cdv A outer s H vs Q E hr h => ?_)
  · obtain ⟨p, v, d, rfl, _⟩ := h
    rfl
  · obtain ⟨p, v, d, rfl, hd, _, k⟩ := h
    refine ⟨_, (pss_one (ps_ret (pe_and (pe_call (ok_is_fraction T) (hr.mono (by decide)) (by rfl) T.d_is_fraction.g T.d_is_fraction.F.kp T.d_is_fraction.b .nil pass0 (pa_cons (pv 0) pa_nil)) (pe_one (pe_cmpR op_gt (pe_ix ix_tup (pv 0) pe_int (fun _ _ => rfl)) pe_int (nomark _)))))), ?_⟩
    refine s_ret (ev_andV (b := decide (0 < (frQ d).num)) (ev_isD (ev_var rfl) hd trivial) fun hb => ?_) fun H1 e => k H1 e
    have hq := frB_iff hb
    have hd' : Dq K p H v (.tuple [.int (frQ d).num, .int ((frQ d).den : Int)]) := by
      rw [hq] at hd
      exact hd
    intro H1 e1 Q kk
    refine ed_ix (K := K) (p := p) (j := 0) rfl hd' rfl H1 e1 _ fun x H2 e2 q => ?_
    cases q with
    | int n => exact ⟨_, _, rfl, rfl, kk H2 e2⟩
theorem ok_is_outcome (T : Txt K mg) : FnOk P w K mg base CX0 4 T.d_is_outcome.a T.d_is_outcome.fd ["value"] (spIsD K Any outB) := by
  refine T.d_is_outcome.F.ok sc_is_outcome (fun vs H Q E h => ?_) (fun cdv A outer s H vs Q E hr h => ?_)
  · obtain ⟨p, v, d, rfl, _⟩ := h
    rfl
  · obtain ⟨p, v, d, rfl, hd, _, k⟩ := h
    refine ⟨_, (pss_one (ps_ret (pe_and (pe_callB call_isi (by rfl) T.n_isinstance (by decide +kernel) (pa_cons (pv 0) (pa_cons (pe_bltn (v := .ty "tuple") (by rfl) T.n_tuple (by decide +kernel) rfl) pa_nil))) (pe_and (pe_cmpR op_eq (pe_callB call_len_seq (by rfl) T.n_len (by decide +kernel) (pa_cons (pv 0) pa_nil)) pe_int (nomark _)) (pe_one (pe_call (ok_is_above_zero T) (hr.mono (by decide)) (by rfl) T.d_is_above_zero.g T.d_is_above_zero.F.kp T.d_is_above_zero.b .nil pass0 (pa_cons (pe_ix ix_tup (pv 0) pe_int (fun _ _ => rfl)) pa_nil))))))), ?_⟩
    by_cases ht : isTup d = true
    · obtain ⟨ds, rfl⟩ : ∃ ds, d = .tuple ds := by
        cases d with
        | tuple ds => exact ⟨ds, rfl⟩
        | _ => cases ht
      refine s_ret (ev_is (ev_andV (b := decide (V.int (ds.length : Int) = V.int 2) && outB (.tuple ds)) (ev_isi rfl hd (kit_tup _)) fun _ => ev_andV (b := outB (.tuple ds)) (ev_op (ev_lenT rfl hd) ev_c (rv_eq rfl)) fun h2 => ?_) ?_) fun H1 e => k H1 e
      · have h2' : ds.length = 2 := by
          have := V.int.inj (of_decide_eq_true h2)
          omega
        obtain ⟨d1, d2, rfl⟩ : ∃ d1 d2, ds = [d1, d2] := match ds, h2' with | [d1, d2], _ => ⟨d1, d2, rfl⟩
        exact ev_isDp (ed_ix (j := 0) rfl hd rfl) trivial
      · congr 1
        show (true && _) = _
        rw [Bool.true_and]
        cases hl : decide (V.int (ds.length : Int) = V.int 2) with
        | true => rw [Bool.true_and]
        | false =>
          have : outB (.tuple ds) = false := by
            match ds, hl with
            | [], _ => rfl
            | [_], _ => rfl
            | [_, _], h => exact absurd (show decide (V.int (2 : Int) = V.int 2) = false from h) (by decide)
            | _ :: _ :: _ :: _, _ => rfl
          rw [this]
          rfl
    · have e : outB d = false := by
        cases d <;> (first | rfl | exact absurd rfl ht)
      have ht' : isTup d = false := by simpa using ht
      rw [e] at k
      refine s_ret (ev_is (ev_andV (b := false) (ev_isi rfl hd (kit_tup d)) fun z => ?_) ?_) fun H1 e => k H1 e
      · rw [ht'] at z
        cases z
      · rw [Bool.and_false]
end
section
variable {K : PySem.W.Frag} {T : Addr} {H H' : Hp}
theorem tab_ne (ht : GxR.TabG H T) {a : Addr} {o : HO} (h : H a = some o) (ho : ∀ ps, o ≠ .tbl ps) : a ≠ T := by
  rintro rfl
  obtain ⟨ps, e, _⟩ := ht
  rw [h] at e
  exact ho ps (Option.some.inj e)
theorem tb_l {a : Addr} {xs : List V} (ht : GxR.TabG H T) (e : ExB T H H') (h : SqL K H a xs) : SqL K H' a xs := by
  rcases h with (h | ⟨o, h⟩) | h
  · exact .inl (.inl (e a _ (tab_ne ht h fun _ z => nomatch z) h))
  · exact .inl (.inr ⟨o, e a _ (tab_ne ht h fun _ z => nomatch z) h⟩)
  · exact .inr h
theorem tb_t {a : Addr} {xs : List V} (ht : GxR.TabG H T) (e : ExB T H H') (h : SqT K H a xs) : SqT K H' a xs := by
  rcases h with (h | ⟨o, h⟩) | h
  · exact .inl (.inl (e a _ (tab_ne ht h fun _ z => nomatch z) h))
  · exact .inl (.inr ⟨o, e a _ (tab_ne ht h fun _ z => nomatch z) h⟩)
  · exact .inr h
theorem tb_f {b : Nat} {q : Rat} {v : V} (ht : GxR.TabG H T) (e : ExB T H H') (h : Fr K b q v H) : Fr K b q v H' := by
  obtain ⟨a, rfl, h, x⟩ := h
  exact ⟨a, rfl, tb_t ht e h, x⟩
theorem tab_ex (ht : GxR.TabG H T) (e : Ex H H') : GxR.TabG H' T := by
  obtain ⟨ps, h1, h2⟩ := ht
  exact ⟨ps, e _ _ h1, h2⟩
end
section
variable {K : PySem.W.Frag} {p T : Addr} {H H' : Hp}
mutual
theorem Dq.tb (ht : GxR.TabG H T) (e : ExB T H H') : ∀ (d : PyData) (v : V), Dq K p H v d → Dq K p H' v d
  | _, _, .non => .non
  | _, _, .bl b => .bl b
  | _, _, .int i => .int i
  | _, _, .str x => .str x
  | _, _, .lst n m h hs => .lst n m (e _ _ (tab_ne ht h fun _ z => nomatch z) h) (DqAll.tb ht e _ _ hs)
  | _, _, .tup h hs => .tup (tb_t ht e h) (DqAll.tb ht e _ _ hs)
  | _, _, .emp h => .emp (e _ _ (tab_ne ht h fun _ z => nomatch z) h)
theorem DqAll.tb (ht : GxR.TabG H T) (e : ExB T H H') : ∀ (ds : List PyData) (vs : List V), DqAll K p H vs ds → DqAll K p H' vs ds
  | _, _, .nil => .nil
  | _, _, .cons h hs => .cons (Dq.tb ht e _ _ h) (DqAll.tb ht e _ _ hs)
end
end
section
variable {P : Program} {w : World} {K : PySem.W.Frag} {mg : Str → Option Value} {base : Heap}
/-- a def by its body, its code object known -/
theorem okC {x qual : Str} {st : Stmt} {f c : Addr} {fd : FuncData} {N ps : List Str} {k : Nat} {sp : Sp} (F : Fun K x qual st f fd) (hc : fd.code = .ref c) (S : FnScope N ps (defScope st)) (len : ∀ vs H Q E, sp vs H Q E → vs.length = ps.length)
    (body : ∀ (A : Around) (outer : List Env) (s : Shared) (H : Hp) (vs : List V) (Q : VK) (E : XK), Room k (A.deeper (envOfC qual (defScope st) s.heap.objs.size f (.ref c))) → sp vs H Q E →
      ∃ t, PSs (cxOf CX0 P w K mg base N qual (defScope st) f (.ref c) A outer s H E).nox (defBody st) t ∧ t { nx := fun _ H' => Q .non H', rt := Q } (start N vs) H) : FnOk P w K mg base CX0 (k + 1) f fd ps sp := by
  obtain ⟨oc, od, kV, doc, pm, an, cdv, ct, osl, rfl, lk, hcd⟩ := F.ex
  obtain rfl : cdv = .ref c := hc
  apply fn_of lk hcd S len
  intro A outer s H vs Q E hr hsp
  obtain ⟨t, h, q⟩ := body A outer s H vs Q E hr hsp
  exact ⟨t, h.nox, q⟩
end
/-! ### has_form_of_step, has_form_of_all, has_form_of_term -/
theorem rd_allEv {K : PySem.W.Frag} {p : Addr} {te : TE} {f : PyData → Bool} : ∀ {vs : List V} {ds : List PyData} {H : Hp} {Q : Bool → Hp → Prop}, DqAll K p H vs ds → (∀ v d H', Dq K p H' v d → Ev te [none, some v] H' (.bl (f d))) → (∀ H', Ex H H' → Q (ds.all f) H') → rdAll te vs H Q
  | _, _, H, Q, .nil, _, k => k H (Ex.refl H)
  | _, _, H, Q, .cons (d := d) h hs, he, k => by
    refine he _ d H h H (Ex.refl H) _ fun H1 e1 => ⟨f d, rfl, fun hb => ?_, fun hb => ?_⟩
    · refine rd_allEv (DqAll.ex e1 _ _ hs) he fun H' e' => ?_
      have := k H' (e1.trans e')
      rwa [List.all_cons, hb, Bool.true_and] at this
    · have := k H1 e1
      rwa [List.all_cons, hb, Bool.false_and] at this
theorem Tabd.exb {T : Addr} {H H' : Hp} (h : GxR.Tabbed T H H') : ExB T H H' := fun b o n e => by
  rw [h.2 b n]
  exact e
def spStepF (K : PySem.W.Frag) (T : Addr) : Sp := fun vs H Q _ => ∃ (p : Addr) (v : V) (ds : List PyData), vs = [v] ∧ Dq K p H v (.tuple ds) ∧ GxR.TabG H T ∧ ∀ H', ExB T H H' → GxR.TabG H' T → Q (.bl (stepB ds)) H'
section
variable {P : Program} {w : World} {K : PySem.W.Frag} {mg : Str → Option Value} {base : Heap}
theorem ok_has_form_of_step (T : Txt K mg) (tb : GxR.TabB base mg T.c_has_form_of_step T.P_has_form_of_step) : FnOk P w K mg base CX0 6 T.d_has_form_of_step.a T.d_has_form_of_step.fd ["value"] (spStepF K T.P_has_form_of_step) := by
  refine okC T.d_has_form_of_step.F T.h_has_form_of_step sc_has_form_of_step (fun vs H Q E h => ?_) (fun A outer s H vs Q E hr h => ?_)
  · obtain ⟨p, v, ds, rfl, _⟩ := h
    rfl
  · obtain ⟨p, v, ds, rfl, hd, hT, k⟩ := h
    refine ⟨_, (pss_cons (ps_if (PW.pt (pw_or (pt_cmpR op_ne (pe_callB call_len_seq (by rfl) T.n_len (by decide +kernel) (pa_cons (pv 0) pa_nil)) pe_int (nomark _)) (pw_or1 (pt_not (pt_val (pe_call (ok_is_fraction T) (hr.mono (by decide)) (by rfl) T.d_is_fraction.g T.d_is_fraction.F.kp T.d_is_fraction.b .nil pass0 (pa_cons (pe_ix ix_tup (pv 0) pe_int (fun _ _ => rfl)) pa_nil))))))) (pss_one (ps_ret pe_bl)) pss_nil)
      (pss_cons (ps_set (i := 1) sc_has_form_of_step.nd rfl (Or.inl rfl) (pe_ix ix_tup (pv 0) pe_int (fun _ _ => rfl)))
      (pss_one (ps_ret (pe_and (pe_callB call_isi (by rfl) T.n_isinstance (by decide +kernel) (pa_cons (pv 1) (pa_cons (pe_bltn (v := .ty "tuple") (by rfl) T.n_tuple (by decide +kernel) rfl) pa_nil))) (pe_and (pe_cmpR op_le (pe_callB call_len_seq (by rfl) T.n_len (by decide +kernel) (pa_cons (pv 1) pa_nil)) pe_int (nomark _)) (pe_one (pe_allT hr (by rfl) T.n_all tb rfl ⟨rfl, rfl, by decide, rfl, rfl, by decide, by decide⟩ (pv 1) (fun _ _ _ _ _ hr => (pe_call (ok_is_outcome T) (hr.mono (by decide)) (by rfl) T.d_is_outcome.g T.d_is_outcome.F.kp T.d_is_outcome.b .nil pass0 (pa_cons (pv 1) pa_nil))) (fun _ => rfl))))))))), ?_⟩
    by_cases h3 : ds.length = 3
    · obtain ⟨d0, d1, d2, rfl⟩ : ∃ d0 d1 d2, ds = [d0, d1, d2] := match ds, h3 with | [a, b, c], _ => ⟨a, b, c, rfl⟩
      refine s_if (b := !frB d1) (et_is (et_or (a := false) (et_test (ev_op (ev_lenT rfl hd) ev_c (rv_ne rfl))) fun _ => et_not (et_B (ev_isDp (ed_ix (j := 1) rfl hd rfl) trivial))) rfl) (fun z H1 e1 => ?_) (fun z H1 e1 => ?_)
      · have e : stepB [d0, d1, d2] = false := by
          have z' : frB d1 = false := by simpa using z
          cases d2 <;> simp [stepB, z']
        rw [e] at k
        exact k H1 (Ex.b e1) (tab_ex hT e1)
      · have z' : frB d1 = true := by simpa using z
        have hd1 := Dq.ex e1 _ _ hd
        have hT1 := tab_ex hT e1
        refine n_seq ?_
        refine s_asgP (ed_ix (K := K) (p := p) (j := 2) rfl hd1 rfl) fun x H2 e2 q2 => ?_
        have hT2 := tab_ex hT1 e2
        have eb2 : ExB T.P_has_form_of_step H H2 := Ex.b (e1.trans e2)
        refine (ev_isi (i := 1) (T := "tuple") rfl q2 (kit_tup d2)) H2 (Ex.refl _) _ fun H3 e3 => ⟨_, rfl, ?_⟩
        cases ht : isTup d2 with
        | false =>
          rw [if_neg (by decide)]
          have e : stepB [d0, d1, d2] = false := by
            cases d2 <;> first | rfl | (simp [isTup] at ht)
          rw [e] at k
          exact k H3 (eb2.trans (Ex.b e3)) (tab_ex hT2 e3)
        | true =>
          rw [if_pos rfl]
          obtain ⟨os, rfl⟩ : ∃ os, d2 = .tuple os := by
            cases d2 with
            | tuple os => exact ⟨os, rfl⟩
            | _ => cases ht
          have q3 := Dq.ex e3 _ _ q2
          refine (ev_op (ev_lenT (i := 1) rfl q3) ev_c rv_I0) H3 (Ex.refl _) _ fun H4 e4 => ⟨_, rfl, ?_⟩
          have q4 := Dq.ex e4 _ _ q3
          have hT4 := tab_ex hT2 (e3.trans e4)
          have eb4 : ExB T.P_has_form_of_step H H4 := eb2.trans (Ex.b (e3.trans e4))
          by_cases hl : ((os.length : Nat) : Int) ≤ 3
          · rw [if_pos (decide_eq_true hl)]
            obtain ⟨t, xs, rfl, hS, hA⟩ := q4.seq
            refine ⟨_, rfl, t, xs, rfl, hS, hT4, fun H5 tb5 => ?_⟩
            have eb5 := Tabd.exb tb5
            refine rd_allEv (f := outB) (DqAll.tb hT4 eb5 _ _ hA) (fun v d H' hq => ev_isD (ev_var rfl) hq trivial) fun H6 e6 => ?_
            have e : stepB [d0, d1, .tuple os] = os.all outB := by
              show (frB d1 && (decide (os.length ≤ 3) && os.all outB)) = _
              rw [z', decide_eq_true (by omega), Bool.true_and, Bool.true_and]
            rw [e] at k
            exact k H6 ((eb4.trans eb5).trans (Ex.b e6)) (tab_ex tb5.1 e6)
          · rw [if_neg (by rw [decide_eq_false hl]; decide)]
            have e : stepB [d0, d1, .tuple os] = false := by
              show (frB d1 && (decide (os.length ≤ 3) && os.all outB)) = _
              rw [decide_eq_false (by omega), Bool.false_and, Bool.and_false]
            rw [e] at k
            exact k H4 eb4 hT4
    · have e : stepB ds = false := by
        match ds, h3 with
        | [], _ => rfl
        | [_], _ => rfl
        | [_, _], _ => rfl
        | [_, _, _], h => exact absurd rfl h
        | _ :: _ :: c :: _ :: _, _ => cases c <;> rfl
      rw [e] at k
      have n3 : V.int (ds.length : Int) ≠ V.int 3 := fun z => h3 (by
        have := V.int.inj z
        omega)
      refine s_if (b := true) (et_is (et_or (a := true) (b := true) (et_is (et_test (ev_op (ev_lenT rfl hd) ev_c (rv_ne rfl))) (by rw [decide_eq_false n3]; rfl)) fun z => nomatch z) rfl) (fun z H1 e1 => k H1 (Ex.b e1) (tab_ex hT e1)) fun z => nomatch z
end
/-! ### has_form_of_all, has_form_of_term, is_step -/
def headB : PyData → Bool
  | .tuple (.str s :: r) => if s = "step" then stepB (.str s :: r) else if s = "all" then allB (.str s :: r) else decide (s = "end") && r.isEmpty
  | _ => false
/-- what is asked of it: no tuple, or a name ahead -/
def Named (d : PyData) : Prop := isTup d = false ∨ d = .tuple [] ∨ ∃ s r, d = .tuple (.str s :: r) ∧ (s = "step" ∨ s = "all" ∨ (d.hasDict = false ∧ SeqAt.shaped d = true))
section
variable {K : PySem.W.Frag} {p : Addr} {H : Hp} {v : V} {d : PyData} {σ : L2.St} {i : Nat} {te ta tb tc : TE} {x y w : V} {r r' : R2}
theorem ev_isiP {T : String} {b : Bool} (h : EvP te σ H fun x H' => Dq K p H' x d) (hk : kitB (tyName d) T = some b) : Ev (tCB (rIsi K) (tCons te (tCons (tC (.ty T)) tNil))) σ H (.bl b) :=
  fun H1 e Q k => h H1 e _ fun x H2 e2 q => ⟨x, .ty T, .type (tyName d), .type T, b, rfl, .ty _, q.ty, kit_ty hk, k H2 e2⟩
theorem ev_lenP {ds : List PyData} (h : EvP te σ H fun x H' => Dq K p H' x (.tuple ds)) : Ev (tCB (fun xs H_1 Q => ∃ p ys, xs = [V.ref p] ∧ (SqL K H_1 p ys ∨ SqT K H_1 p ys) ∧ Q (V.int ys.length) H_1) (tCons te tNil)) σ H (.int (ds.length : Int)) := fun H1 e Q k => h H1 e _ fun x H2 e2 q => by
  obtain ⟨a, xs, rfl, hS, hA⟩ := q.seq
  refine ⟨a, xs, rfl, .inr hS, ?_⟩
  rw [hA.len]
  exact k H2 e2
theorem ev_chain {a b : Bool} (ha : Ev ta σ H x) (hb : Ev tb σ H y) (hc : Ev tc σ H w) (h1 : ∀ H, RV r x y H (.bl a)) (h2 : ∀ H, RV r' y w H (.bl b)) : Ev (tChain r r' ta tb tc) σ H (.bl (a && b)) := fun H1 e Q k =>
  ha H1 e _ fun H2 e2 => hb H2 (e.trans e2) _ fun H3 e3 => h1 H3 H3 (Ex.refl _) _ fun H4 e4 => ⟨a, rfl, by
    cases a with
    | true =>
      rw [if_pos rfl]
      exact hc H4 (((e.trans e2).trans e3).trans e4) _ fun H5 e5 => h2 H5 H5 (Ex.refl _) _ fun H6 e6 => k H6 ((((e2.trans e3).trans e4).trans e5).trans e6)
    | false =>
      rw [if_neg (by decide)]
      exact k H4 ((e2.trans e3).trans e4)⟩
end
def spAllF (K : PySem.W.Frag) : Sp := fun vs H Q _ => ∃ (p : Addr) (v : V) (ds : List PyData), vs = [v] ∧ Dq K p H v (.tuple ds) ∧ ∀ H', Ex H H' → Q (.bl (allB ds)) H'
def spTermF (K : PySem.W.Frag) (T : Addr) : Sp := fun vs H Q _ => ∃ (p : Addr) (v : V) (d : PyData), vs = [v] ∧ Dq K p H v d ∧ Named d ∧ GxR.TabG H T ∧ ∀ H', ExB T H H' → GxR.TabG H' T → Q (.bl (headB d)) H'
def spIsStep (K : PySem.W.Frag) : Sp := fun vs H Q _ => ∃ (p : Addr) (v : V) (s : Str) (r : List PyData), vs = [v] ∧ Dq K p H v (.tuple (.str s :: r)) ∧ ∀ H', Ex H H' → Q (.bl (decide (s = "step"))) H'
section
variable {P : Program} {w : World} {K : PySem.W.Frag} {mg : Str → Option Value} {base : Heap}
theorem ok_has_form_of_all (T : Txt K mg) : FnOk P w K mg base CX0 1 T.d_has_form_of_all.a T.d_has_form_of_all.fd ["value"] (spAllF K) := by
  refine T.d_has_form_of_all.F.ok sc_has_form_of_all (fun vs H Q E h => ?_) (fun cdv A outer s H vs Q E hr h => ?_)
  · obtain ⟨p, v, ds, rfl, _⟩ := h
    rfl
  · obtain ⟨p, v, ds, rfl, hd, k⟩ := h
    refine ⟨_, (pss_one (ps_ret (pe_and (pe_cmpR op_eq (pe_callB call_len_seq (by rfl) T.n_len (by decide +kernel) (pa_cons (pv 0) pa_nil)) pe_int (nomark _)) (pe_and (pe_callB call_isi (by rfl) T.n_isinstance (by decide +kernel) (pa_cons (pe_ix ix_tup (pv 0) pe_int (fun _ _ => rfl)) (pa_cons (pe_bltn (v := .ty "tuple") (by rfl) T.n_tuple (by decide +kernel) rfl) pa_nil))) (pe_one (pe_chain op_le op_le pe_int (pe_callB call_len_seq (by rfl) T.n_len (by decide +kernel) (pa_cons (pe_ix ix_tup (pv 0) pe_int (fun _ _ => rfl)) pa_nil)) pe_int)))))), ?_⟩
    by_cases h2 : ds.length = 2
    · obtain ⟨d0, d1, rfl⟩ : ∃ d0 d1, ds = [d0, d1] := match ds, h2 with | [a, b], _ => ⟨a, b, rfl⟩
      have i1 : EvP (tOp (rIxT K) (tVar 0) (tC (.int 1))) [some v] H (fun x H' => Dq K p H' x d1) := ed_ix (j := 1) rfl hd rfl
      refine s_ret (ev_is (ev_andV (a := true) (b := allB [d0, d1]) (ev_op (ev_lenT rfl hd) ev_c (rv_eq rfl)) fun _ => ?_) (by rw [Bool.true_and])) fun H1 e => k H1 e
      cases ht : isTup d1 with
      | false =>
        have e : allB [d0, d1] = false := by
          cases d1 <;> first | rfl | (simp [isTup] at ht)
        rw [e]
        exact ev_is (ev_andV (a := false) (b := false) (ev_is (ev_isiP i1 (kit_tup d1)) (by rw [ht])) fun z => nomatch z) rfl
      | true =>
        obtain ⟨ts, rfl⟩ : ∃ ts, d1 = .tuple ts := by
          cases d1 with
          | tuple ts => exact ⟨ts, rfl⟩
          | _ => cases ht
        refine ev_is (ev_andV (a := true) (b := allB [d0, .tuple ts]) (ev_is (ev_isiP i1 (kit_tup _)) rfl) fun _ => ?_) (by rw [Bool.true_and])
        refine ev_is (ev_chain (a := decide (2 ≤ ts.length)) (b := decide (ts.length ≤ 3)) ev_c (ev_lenP i1) ev_c (fun H => ?_) fun H => ?_) rfl
        · have := rv_I0 (H := H) (g := fun i j => .bl (decide (i ≤ j))) (i := 2) (j := (ts.length : Int))
          have e : decide ((2 : Int) ≤ ts.length) = decide (2 ≤ ts.length) := by
            rw [Bool.eq_iff_iff, decide_eq_true_iff, decide_eq_true_iff]
            omega
          rw [e] at this
          exact this
        · have := rv_I0 (H := H) (g := fun i j => .bl (decide (i ≤ j))) (i := (ts.length : Int)) (j := 3)
          have e : decide ((ts.length : Int) ≤ 3) = decide (ts.length ≤ 3) := by
            rw [Bool.eq_iff_iff, decide_eq_true_iff, decide_eq_true_iff]
            omega
          rw [e] at this
          exact this
    · have e : allB ds = false := by
        match ds, h2 with
        | [], _ => rfl
        | [_], _ => rfl
        | [_, _], h => exact absurd rfl h
        | _ :: c :: _ :: _, _ => cases c <;> rfl
      rw [e] at k
      have n2 : V.int (ds.length : Int) ≠ V.int 2 := fun z => h2 (by
        have := V.int.inj z
        omega)
      exact s_ret (ev_is (ev_andV (a := false) (b := false) (ev_is (ev_op (ev_lenT rfl hd) ev_c (rv_eq rfl)) (by rw [decide_eq_false n2])) fun z => nomatch z) rfl) fun H1 e => k H1 e
theorem ok_is_step (T : Txt K mg) : FnOk P w K mg base CX0 1 T.d_is_step.a T.d_is_step.fd ["term"] (spIsStep K) := by
  refine T.d_is_step.F.ok sc_is_step (fun vs H Q E h => ?_) (fun cdv A outer s H vs Q E hr h => ?_)
  · obtain ⟨p, v, s, r, rfl, _⟩ := h
    rfl
  · obtain ⟨p, v, s, r, rfl, hd, k⟩ := h
    refine ⟨_, (pss_one (ps_ret (pe_cmpR op_eq (pe_ix ix_tup (pv 0) pe_int (fun _ _ => rfl)) pe_str (nomark _)))), ?_⟩
    refine s_ret (v := .bl (decide (s = "step"))) (fun H1 e Q kk => ed_ix (K := K) (p := p) (j := 0) rfl hd rfl H1 e _ fun x H2 e2 q => ?_) fun H1 e => k H1 e
    cases q with
    | str s =>
      refine ⟨rfl, ?_⟩
      have e : decide (V.str s = V.str "step") = decide (s = "step") := by
        rw [Bool.eq_iff_iff, decide_eq_true_iff, decide_eq_true_iff]
        exact ⟨fun z => V.str.inj z, fun z => by rw [z]⟩
      rw [e]
      exact kk H2 e2
end
/-! ### has_form_of_term, children -/
/-- what stands right within -/
def sndD : PyData → PyData
  | .tuple [_, d] => d
  | _ => .none
def kidsS : List PyData → List PyData
  | [_, .tuple os] => os.map sndD
  | _ => []
def kidsA : List PyData → List PyData
  | [.tuple ts] => ts
  | _ => []
def kidsD : PyData → List PyData
  | .tuple (.str s :: r) => if s = "step" then kidsS r else if s = "all" then kidsA r else []
  | _ => []
section
variable {K : PySem.W.Frag} {p : Addr} {H : Hp} {v : V} {d : PyData} {σ : L2.St} {i : Nat}
theorem et_tru {ds : List PyData} (hv : σ[i]? = some (some v)) (hd : Dq K p H v (.tuple ds)) : EvT (fun σ H Q => tVar i σ H fun x H' => ∃ k, TruV K x H' k ∧ Q k H') σ H (!ds.isEmpty) := fun H1 e Q k => by
  obtain ⟨a, xs, rfl, hS, hA⟩ := hd.seq
  refine ⟨_, hv, !ds.isEmpty, .inr (.inl ⟨xs, ex_t e hS, ?_⟩), k H1 (Ex.refl H1)⟩
  have := hA.len
  cases xs <;> cases ds <;> first | rfl | simp at this
theorem ev_name {s : Str} {r : List PyData} {t : Str} (hv : σ[i]? = some (some v)) (hd : Dq K p H v (.tuple (.str s :: r))) : Ev (tOp rEq (tOp (rIxT K) (tVar i) (tC (.int 0))) (tC (.str t))) σ H (.bl (decide (s = t))) := fun H1 e Q kk =>
  ed_ix (K := K) (p := p) (j := 0) hv hd rfl H1 e _ fun x H2 e2 q => by
    cases q with
    | str s =>
      refine ⟨rfl, ?_⟩
      have e : decide (V.str s = V.str t) = decide (s = t) := by
        rw [Bool.eq_iff_iff, decide_eq_true_iff, decide_eq_true_iff]
        exact ⟨fun z => V.str.inj z, fun z => by rw [z]⟩
      rw [e]
      exact kk H2 e2
mutual
theorem Dq.dp : ∀ (d : PyData) (v : V), d.hasDict = false → Dq K p H v d → Dp K H v d
  | _, _, _, .non => .non
  | _, _, _, .bl b => .bl b
  | _, _, _, .int i => .int i
  | _, _, _, .str x => .str x
  | _, _, h0, .lst n m h hs => .lst (SqL.of h) (DqAll.dp _ _ (by simpa [PyData.hasDict] using h0) hs)
  | _, _, h0, .tup h hs => .tup h (DqAll.dp _ _ (by simpa [PyData.hasDict] using h0) hs)
  | _, _, h0, .emp h => by simp [PyData.hasDict] at h0
theorem DqAll.dp : ∀ (ds : List PyData) (vs : List V), PyData.hasDictAll ds = false → DqAll K p H vs ds → DpAll K H vs ds
  | _, _, _, .nil => .nil
  | _, _, h0, .cons h hs => by
    simp only [PyData.hasDictAll, Bool.or_eq_false_iff] at h0
    exact .cons (Dq.dp _ _ h0.1 h) (DqAll.dp _ _ h0.2 hs)
end
end
def spKids (K : PySem.W.Frag) : Sp := fun vs H Q _ => ∃ (p : Addr) (v : V) (d : PyData), vs = [v] ∧ Dq K p H v d ∧ headB d = true ∧ ∀ l ys H', Ex H H' → H l = none → H' l = some (.lst ys) → DqAll K p H' ys (kidsD d) → Q (.ref l) H'
section
variable {P : Program} {w : World} {K : PySem.W.Frag} {mg : Str → Option Value} {base : Heap}
theorem ok_has_form_of_term (T : Txt K mg) (tb : GxR.TabB base mg T.c_has_form_of_step T.P_has_form_of_step) : FnOk P w K mg base CX0 7 T.d_has_form_of_term.a T.d_has_form_of_term.fd ["value"] (spTermF K T.P_has_form_of_step) := by
  refine T.d_has_form_of_term.F.ok sc_has_form_of_term (fun vs H Q E h => ?_) (fun cdv A outer s H vs Q E hr h => ?_)
  · obtain ⟨p, v, d, rfl, _⟩ := h
    rfl
  · obtain ⟨p, v, d, rfl, hd, hn, hT, k⟩ := h
    refine ⟨_, (pss_cons (ps_if (PW.pt (pw_or (pt_not (pt_val (pe_callB call_isi (by rfl) T.n_isinstance (by decide +kernel) (pa_cons (pv 0) (pa_cons (pe_bltn (v := .ty "tuple") (by rfl) T.n_tuple (by decide +kernel) rfl) pa_nil))))) (pw_or1 (pt_not (pt_truth (pv 0) (by intro _; rfl)))))) (pss_one (ps_ret pe_bl)) pss_nil)
      (pss_cons (ps_if (pt_cmpR op_eq (pe_ix ix_tup (pv 0) pe_int (fun _ _ => rfl)) pe_str (nomark _)) (pss_one (ps_ret (pe_call (ok_has_form_of_step T tb) (hr.mono (by decide)) (by rfl) T.d_has_form_of_step.g T.d_has_form_of_step.F.kp T.d_has_form_of_step.b .nil pass0 (pa_cons (pv 0) pa_nil)))) pss_nil)
      (pss_cons (ps_if (pt_cmpR op_eq (pe_ix ix_tup (pv 0) pe_int (fun _ _ => rfl)) pe_str (nomark _)) (pss_one (ps_ret (pe_call (ok_has_form_of_all T) (hr.mono (by decide)) (by rfl) T.d_has_form_of_all.g T.d_has_form_of_all.F.kp T.d_has_form_of_all.b .nil pass0 (pa_cons (pv 0) pa_nil)))) pss_nil)
      (pss_one (ps_ret (pe_cmpR (op_eqD hr.units) (pv 0) (pe_glob (v := .ref T.a_END) rfl T.c_END rfl) (nomark _))))))), ?_⟩
    rcases hn with ht | rfl | ⟨s, r, rfl, hs⟩
    · have e : headB d = false := by
        cases d <;> first | rfl | (simp [isTup] at ht)
      rw [e] at k
      exact s_if (b := true) (et_is (et_or (a := true) (b := true) (et_is (et_not (et_B (ev_isi rfl hd (kit_tup d)))) (by rw [ht]; rfl)) fun z => nomatch z) rfl) (fun z H1 e1 => k H1 (Ex.b e1) (tab_ex hT e1)) fun z => nomatch z
    · exact s_if (b := true) (et_is (et_or (a := false) (b := true) (et_is (et_not (et_B (ev_isi rfl hd (kit_tup _)))) rfl) fun _ => et_is (et_not (et_tru rfl hd)) rfl) rfl) (fun z H1 e1 => k H1 (Ex.b e1) (tab_ex hT e1)) fun z => nomatch z
    · refine s_if (b := false) (et_is (et_or (a := false) (b := false) (et_is (et_not (et_B (ev_isi rfl hd (kit_tup _)))) rfl) fun _ => et_is (et_not (et_tru rfl hd)) rfl) rfl) (fun z => nomatch z) fun _ H1 e1 => ?_
      have hd1 := Dq.ex e1 _ _ hd
      have hT1 := tab_ex hT e1
      refine s_if (et_test (ev_name (t := "step") rfl hd1)) (fun z H2 e2 => ?_) fun z H2 e2 => ?_
      · have z' : s = "step" := of_decide_eq_true z
        have e : headB (.tuple (.str s :: r)) = stepB (.str s :: r) := by
          show (if s = "step" then _ else _) = _
          rw [if_pos z']
        rw [e] at k
        exact ⟨_, rfl, p, v, _, rfl, Dq.ex e2 _ _ hd1, tab_ex hT1 e2, fun H3 eb t3 => k H3 ((Ex.b (e1.trans e2)).trans eb) t3⟩
      · have z' : s ≠ "step" := of_decide_eq_false z
        have hd2 := Dq.ex e2 _ _ hd1
        have hT2 := tab_ex hT1 e2
        refine s_if (et_test (ev_name (t := "all") rfl hd2)) (fun y H3 e3 => ?_) fun y H3 e3 => ?_
        · have y' : s = "all" := of_decide_eq_true y
          have e : headB (.tuple (.str s :: r)) = allB (.str s :: r) := by
            show (if s = "step" then _ else if s = "all" then _ else _) = _
            rw [if_neg z', if_pos y']
          rw [e] at k
          exact ⟨_, rfl, p, v, _, rfl, Dq.ex e3 _ _ hd2, fun H4 e4 => k H4 (Ex.b (((e1.trans e2).trans e3).trans e4)) (tab_ex hT2 (e3.trans e4))⟩
        · have y' : s ≠ "all" := of_decide_eq_false y
          have hq : PyData.hasDict (.tuple (.str s :: r)) = false ∧ SeqAt.shaped (.tuple (.str s :: r)) = true := by
            rcases hs with h | h | h
            · exact absurd h z'
            · exact absurd h y'
            · exact h
          have e : headB (.tuple (.str s :: r)) = PyData.eqv (.tuple (.str s :: r)) (.tuple [.str "end"]) := by
            show (if s = "step" then _ else if s = "all" then _ else _) = _
            rw [if_neg z', if_neg y']
            have e1 : (s == ("end" : Str)) = decide (s = "end") := by
              rw [Bool.eq_iff_iff, decide_eq_true_iff, beq_iff_eq]
            cases r with
            | nil => simp [PyData.eqv, PyData.eqvAll, e1]
            | cons a r => simp [PyData.eqv, PyData.eqvAll]
          rw [e] at k
          refine ⟨_, rfl, _, _, Dq.dp _ _ hq.1 (Dq.ex e3 _ _ hd2), (.tup (.inr T.k_END) (.cons (.str "end") .nil) : Dp K H3 (.ref T.a_END) (.tuple [.str "end"])), hq.2, by decide +kernel, ?_⟩
          exact k H3 (Ex.b ((e1.trans e2).trans e3)) (tab_ex hT2 e3)
end
/-! ### tests that come out false -/
section
variable {K : PySem.W.Frag} {σ : L2.St} {H : Hp} {D : Ends} {t : TT} {tu tw : TS}
theorem yes_of {Q : Bool → Hp → Prop} (h : Q true H) : tYes σ H Q := h
theorem s_skip (h : EvT t σ H false) (k : ∀ H1, Ex H H1 → D.nx σ H1) : tIfS t tu tNext D σ H := s_if h (fun z => nomatch z) fun _ H1 e => k H1 e
theorem dec_ne {x y : Int} (h : x = y) : (!decide (V.int x = V.int y)) = false := by subst h; simp
theorem dec_neQ {x y : Rat} (h : x = y) : (!decide (x = y)) = false := by subst h; simp
theorem or_ff {a b : Bool} (h : a = false) (h' : b = false) : (a || b) = false := by subst h h'; rfl
/-- the test «two fractions differ» of two that are the same -/
theorem et_neF {ta tb : TE} {b c : Nat} {q r : Rat} (ha : EvP ta σ H (Fr K b q)) (hb : EvP tb σ H (Fr K c r)) (h : q = r) : EvT (tTest (tOp (rNeD K) ta tb)) σ H false := et_is (et_test (ev_neD ha hb)) (dec_neQ h)
theorem et_orF {t u : TT} (h1 : EvT t σ H false) (h2 : EvT u σ H false) : EvT (tOr t u) σ H false := et_is (et_or h1 fun _ => h2) rfl
/-- a written pair -/
theorem ep_lit {x y : Int} {q : Rat} {b : Nat} (e1 : x = q.num) (e2 : y = (q.den : Int)) (bd : Bd b q) : EvP (tTup (tCons (tC (.int x)) (tCons (tC (.int y)) tNil))) σ H (Fr K b q) := ep_tup ev_c ev_c e1 e2 bd
theorem ep_01 : EvP (tTup (tCons (tC (.int 0)) (tCons (tC (.int 1)) tNil))) σ H (Fr K 1 0) := ep_lit rfl rfl ⟨by decide, by decide⟩
end
/-! ### children -/
theorem outB_two {o : PyData} (h : outB o = true) : ∃ w d, o = .tuple [w, d] := by
  match o, h with
  | .tuple [w, d], _ => exact ⟨w, d, rfl⟩
theorem headB_cases {d : PyData} (h : headB d = true) : d = .tuple [.str "end"] ∨ (∃ ts, d = .tuple [.str "all", .tuple ts] ∧ 2 ≤ ts.length ∧ ts.length ≤ 3) ∨ ∃ q os, d = .tuple [.str "step", q, .tuple os] ∧ frB q = true ∧ os.length ≤ 3 ∧ ∀ o ∈ os, outB o = true := by
  match d, h with
  | .tuple (.str s :: r), h =>
    have h' : (if s = "step" then stepB (.str s :: r) else if s = "all" then allB (.str s :: r) else decide (s = "end") && r.isEmpty) = true := h
    by_cases h1 : s = "step"
    · rw [if_pos h1] at h'
      subst h1
      match r, h' with
      | [q, .tuple os], h' =>
        have h2 : (frB q && (decide (os.length ≤ 3) && os.all outB)) = true := h'
        simp only [Bool.and_eq_true, decide_eq_true_eq, List.all_eq_true] at h2
        exact .inr (.inr ⟨q, os, rfl, h2.1, h2.2.1, h2.2.2⟩)
    · rw [if_neg h1] at h'
      by_cases h2 : s = "all"
      · rw [if_pos h2] at h'
        subst h2
        match r, h' with
        | [.tuple ts], h' =>
          have h3 : (decide (2 ≤ ts.length) && decide (ts.length ≤ 3)) = true := h'
          simp only [Bool.and_eq_true, decide_eq_true_eq] at h3
          exact .inr (.inl ⟨ts, rfl, h3⟩)
      · rw [if_neg h2] at h'
        simp only [Bool.and_eq_true, decide_eq_true_eq, List.isEmpty_iff] at h'
        obtain ⟨rfl, rfl⟩ := h'
        exact .inl rfl
section
variable {P : Program} {w : World} {K : PySem.W.Frag} {mg : Str → Option Value} {base : Heap}
theorem ok_children (T : Txt K mg) : FnOk P w K mg base CX0 2 T.d_children.a T.d_children.fd ["term"] (spKids K) := by
  refine T.d_children.F.ok sc_children (fun vs H Q E h => ?_) (fun cdv A outer s H vs Q E hr h => ?_)
  · obtain ⟨p, v, d, rfl, _⟩ := h
    rfl
  · obtain ⟨p, v, d, rfl, hd, hb, k⟩ := h
    refine ⟨_, (pss_cons (ps_if (pt_val (pe_call (ok_is_step T) (hr.mono (by decide)) (by rfl) T.d_is_step.g T.d_is_step.F.kp T.d_is_step.b .nil pass0 (pa_cons (pv 0) pa_nil))) (pss_one (ps_ret (pe_lc (own := [("_", 1), ("inner", 2)]) (g := gTup K 2 (gCons (gName 1) (gCons (gName 2) gNil))) (tt := tYes) rfl sc_children.nd (pi_tup (pe_ix ix_tup (pv 0) pe_int (fun _ _ => rfl))) (blkOk_by (own := [("_", 1), ("inner", 2)]) (N := n_children) (sc := defScope s_children) (by decide +kernel)) (fun _ _ _ _ _ => (pg_tup rfl (pgs_cons (pg_name (i := 1) sc_children.nd rfl (Or.inl rfl)) (pgs_cons (pg_name (i := 2) sc_children.nd rfl (Or.inl rfl)) pgs_nil)))) (fun _ _ _ _ _ => pts_nil) (fun _ _ _ _ _ => (pv 2))))) pss_nil)
      (pss_cons (ps_if (pt_cmpR op_eq (pe_ix ix_tup (pv 0) pe_int (fun _ _ => rfl)) pe_str (nomark _)) (pss_one (ps_ret (pe_callTy call_list_of (by rfl) T.n_list (by decide +kernel) (pa_cons (pe_ix ix_tup (pv 0) pe_int (fun _ _ => rfl)) pa_nil)))) pss_nil)
      (pss_one (ps_ret (pe_lst pa_nil))))), ?_⟩
    have isS : ∀ {s : Str} {r : List PyData} {H1 : Hp}, Dq K p H1 v (.tuple (.str s :: r)) → Ev (tCall (spIsStep K) [] E0 (tCons (tVar 0) tNil)) [some v, none, none] H1 (.bl (decide (s = "step"))) := fun hd H2 e Q kk =>
      ⟨_, rfl, p, v, _, _, rfl, Dq.ex e _ _ hd, fun H3 e3 => kk H3 e3⟩
    rcases headB_cases hb with rfl | ⟨ts, rfl, l2, l3⟩ | ⟨q, os, rfl, hq, hl, ho⟩
    · refine s_if (b := false) (et_is (et_B (isS hd)) rfl) (fun z => nomatch z) fun _ H1 e1 => ?_
      have hd1 := Dq.ex e1 _ _ hd
      refine s_if (b := false) (et_is (et_test (ev_name (t := "all") rfl hd1)) rfl) (fun z => nomatch z) fun _ H2 e2 => ?_
      refine ⟨by show 0 ≤ sizeLine; decide, fun l fl => ?_⟩
      exact k l [] _ ((e1.trans e2).trans (Ex.new fl)) (fresh_back (e1.trans e2) fl) upd_same .nil
    · refine s_if (b := false) (et_is (et_B (isS hd)) rfl) (fun z => nomatch z) fun _ H1 e1 => ?_
      have hd1 := Dq.ex e1 _ _ hd
      refine s_if (b := true) (et_is (et_test (ev_name (t := "all") rfl hd1)) rfl) (fun _ H2 e2 => ?_) fun z => nomatch z
      refine ed_ix (K := K) (p := p) (j := 1) rfl (Dq.ex e2 _ _ hd1) rfl H2 (Ex.refl _) _ fun x H3 e3 q3 => ?_
      obtain ⟨a, xs, rfl, hS, hA⟩ := q3.seq
      refine ⟨a, xs, rfl, .inr hS, fun l fl => ?_⟩
      exact k l xs _ (((e1.trans e2).trans e3).trans (Ex.new fl)) (fresh_back ((e1.trans e2).trans e3) fl) upd_same (DqAll.ex (Ex.new fl) _ _ hA)
    · refine s_if (b := true) (et_is (et_B (isS hd)) rfl) (fun _ H1 e1 => ?_) fun z => nomatch z
      have hd1 := Dq.ex e1 _ _ hd
      refine ed_ix (K := K) (p := p) (j := 2) rfl hd1 rfl H1 (Ex.refl _) _ fun x H2 e2 q2 => ?_
      obtain ⟨a, xs, rfl, hS, hA⟩ := q2.seq
      refine ⟨a, rfl, ⟨_, hS⟩, fun D nD => ?_⟩
      refine lc_tup (K := K) (a := a) (xs := xs) (fun j G => Ex H2 G ∧ ∃ ys, G D = some (.lst ys) ∧ ys.length = j ∧ DqAll K p H2 ys ((os.take j).map sndD)) ⟨Ex.new nD, [], upd_same, rfl, .nil⟩ (fun i G _ h => ex_t h.1 hS) ?_ ?_
      · rintro i y G hy ⟨ex, ys, hys, hyl, hq2⟩
        have il : i < xs.length := (List.getElem?_eq_some_iff.mp hy).1
        have iol : i < os.length := by rw [← hA.len]; exact il
        have eo := List.getElem?_eq_getElem iol
        obtain ⟨y', hy', qy⟩ := hA.get eo
        rw [hy] at hy'
        cases hy'
        obtain ⟨wd, dd, ed⟩ := outB_two (ho _ (List.getElem_mem iol))
        rw [ed] at qy eo
        obtain ⟨b, zs, rfl, hS2, hA2⟩ := qy.seq
        obtain ⟨z1, z2, rfl⟩ : ∃ z1 z2, zs = [z1, z2] := by
          have := hA2.len
          match zs, this with
          | [z1, z2], _ => exact ⟨z1, z2, rfl⟩
        have qz : Dq K p H2 z2 dd := by
          obtain ⟨z, e, q⟩ := hA2.get (j := 1) (dj := dd) rfl
          cases e
          exact q
        refine ⟨b, _, rfl, ex_t ex hS2, rfl, _, _, rfl, _, _, rfl, rfl, rfl, ?_⟩
        refine yes_of ?_
        rw [if_pos rfl]
        refine ⟨_, rfl, _, hys, small1000 (by omega), Ex.mut ex nD, ys ++ [z2], upd_same, by simp [hyl], ?_⟩
        rw [List.take_succ, eo, List.map_append]
        exact hq2.append (.cons qz .nil)
      · rintro G ⟨ex, ys, hys, hyl, hq2⟩
        refine k D ys G ((e1.trans e2).trans ex) (fresh_back (e1.trans e2) nD) hys (DqAll.ex ex _ _ ?_)
        rw [hA.len, List.take_length] at hq2
        exact hq2
end
/-! ### measure -/
def isStD : PyData → Nat
  | .tuple (.str s :: _) => if s = "step" then 1 else 0
  | _ => 0
/-- how the walk over what waits goes on: what is told of it at last -/
inductive Run : List PyData → Nat → Nat → Option (Nat × Nat) → Prop
  | done {s n : Nat} : Run [] s n (some (s, n))
  | bad {st : List PyData} {d : PyData} {s n : Nat} : Named d → headB d = false → Run (st ++ [d]) s n none
  | many {st : List PyData} {d : PyData} {s n : Nat} : Named d → headB d = true → (16 < s + isStD d ∨ 48 < n + 1) → Run (st ++ [d]) s n none
  | go {st : List PyData} {d : PyData} {s n : Nat} {r : Option (Nat × Nat)} : Named d → headB d = true → s + isStD d ≤ 16 → n + 1 ≤ 48 → (kidsD d).length ≤ 3 → Run (st ++ kidsD d) (s + isStD d) (n + 1) r → Run (st ++ [d]) s n r
theorem headB_name {d : PyData} (h : headB d = true) : ∃ s r, d = .tuple (.str s :: r) ∧ isStD d = if s = "step" then 1 else 0 := by
  rcases headB_cases h with rfl | ⟨ts, rfl, _⟩ | ⟨q, os, rfl, _⟩
  · exact ⟨_, _, rfl, rfl⟩
  · exact ⟨_, _, rfl, rfl⟩
  · exact ⟨_, _, rfl, rfl⟩
section
variable {K : PySem.W.Frag} {p l : Addr} {H H' : Hp}
mutual
theorem Dq.exb {xs : List V} (hp : H p = some (.lst xs)) (e : ExB p H H') : ∀ (d : PyData) (v : V), Dq K p H v d → Dq K p H' v d
  | _, _, .non => .non
  | _, _, .bl b => .bl b
  | _, _, .int i => .int i
  | _, _, .str x => .str x
  | _, _, .lst n m h hs => .lst n m (e _ _ n h) (DqAll.exb hp e _ _ hs)
  | _, _, .tup h hs => .tup (tup_lst hp e h) (DqAll.exb hp e _ _ hs)
  | _, _, .emp h => .emp (e _ _ (by rintro rfl; rw [hp] at h; cases h) h)
theorem DqAll.exb {xs : List V} (hp : H p = some (.lst xs)) (e : ExB p H H') : ∀ (ds : List PyData) (vs : List V), DqAll K p H vs ds → DqAll K p H' vs ds
  | _, _, .nil => .nil
  | _, _, .cons h hs => .cons (Dq.exb hp e _ _ h) (DqAll.exb hp e _ _ hs)
end
mutual
/-- data is at none of the new lists -/
theorem Dq.new (hl : H l = none) : ∀ (d : PyData) (v : V), Dq K p H v d → Dq K l H v d
  | _, _, .non => .non
  | _, _, .bl b => .bl b
  | _, _, .int i => .int i
  | _, _, .str x => .str x
  | _, _, .lst n m h hs => .lst (ne_of_none h hl) m h (DqAll.new hl _ _ hs)
  | _, _, .tup h hs => .tup h (DqAll.new hl _ _ hs)
  | _, _, .emp h => .emp h
theorem DqAll.new (hl : H l = none) : ∀ (ds : List PyData) (vs : List V), DqAll K p H vs ds → DqAll K l H vs ds
  | _, _, .nil => .nil
  | _, _, .cons h hs => .cons (Dq.new hl _ _ h) (DqAll.new hl _ _ hs)
end
end
theorem DqAll.snoc {K : PySem.W.Frag} {p : Addr} {H : Hp} {d : PyData} : ∀ {st : List PyData} {ys : List V}, DqAll K p H ys (st ++ [d]) → ∃ zs z, ys = zs ++ [z] ∧ DqAll K p H zs st ∧ Dq K p H z d
  | [], _, .cons h .nil => ⟨[], _, rfl, .nil, h⟩
  | _ :: st, _, .cons h hs => by
    obtain ⟨zs, z, rfl, h1, h2⟩ := DqAll.snoc hs
    exact ⟨_ :: zs, z, rfl, .cons h h1, h2⟩
def measR (K : PySem.W.Frag) (z : V) (H : Hp) : Option (Nat × Nat) → Prop
  | some (s, n) => ∃ a, z = .ref a ∧ SqT K H a [.int (s : Int), .int (n : Int)]
  | none => z = .non
def spMeas (K : PySem.W.Frag) (T : Addr) : Sp := fun vs H Q _ => ∃ (p : Addr) (v : V) (d : PyData) (r : Option (Nat × Nat)), vs = [v] ∧ Dq K p H v d ∧ Run [d] 0 0 r ∧ GxR.TabG H T ∧ ∀ z H', ExB T H H' → GxR.TabG H' T → measR K z H' r → Q z H'
theorem n_asg2 {i j : Nat} {v : V} {D : Ends} {σ : L2.St} {H : Hp} (h : D.nx ((σ.set i (some v)).set j (some v)) H) : tAsg2 (tC v) (gName i) (gName j) D σ H := h
theorem n_name {i : Nat} {v : V} {σ : L2.St} {H : Hp} {N : L2.St → Hp → Prop} (h : N (σ.set i (some v)) H) : gName i v σ H N := h
theorem n_next {D : Ends} {σ : L2.St} {H : Hp} (h : D.nx σ H) : tNext D σ H := h
section
variable {K : PySem.W.Frag} {T l : Addr} {H G : Hp} {zs : List V} {z v : V} {st : List PyData} {d : PyData}
theorem poppedX (lT : l ≠ T) (fl : H l = none) (eb : ExB T H G) (ht : GxR.TabG G T) (hl : G l = some (.lst (zs ++ [z]))) (hz : DqAll K l G zs st) (hq : Dq K l G z d) :
    ExB T H (upd G l (.lst zs)) ∧ GxR.TabG (upd G l (.lst zs)) T ∧ (upd G l (.lst zs)) l = some (.lst zs) ∧ DqAll K l (upd G l (.lst zs)) zs st ∧ Dq K l (upd G l (.lst zs)) z d := by
  have e1 : ExB l G (upd G l (.lst zs)) := ExB.upd (ExB.refl l G)
  refine ⟨fun b o n e => ?_, ?_, upd_same, DqAll.exb hl e1 _ _ hz, Dq.exb hl e1 _ _ hq⟩
  · rw [upd_ne (ne_of_none e fl)]
    exact eb b o n e
  · obtain ⟨ps, h1, h2⟩ := ht
    exact ⟨ps, by rw [upd_ne lT.symm]; exact h1, h2⟩
/-- one more, one step more if it is one -/
theorem counted {D : Ends} {s n : Int} {u : TS} (hb : headB d = true) (hq : Dq K l G z d)
    (k : ∀ G', Ex G G' → u D [some v, some (.ref l), some (.int (s + (isStD d : Nat))), some (.int n), some z] G') :
    tSeq (tIfS (tB (tCall (spIsStep K) [] E0 (tCons (tVar 4) tNil))) (tAug 2 (tC (V.int 1)) (ipI fun i j => i + j)) tNext) u D [some v, some (.ref l), some (.int s), some (.int n), some z] G := by
  obtain ⟨t, r, rfl, hs⟩ := headB_name hb
  refine s_join (fun σ G' => σ = [some v, some (.ref l), some (.int (s + (isStD (.tuple (.str t :: r)) : Nat))), some (.int n), some z] ∧ Ex G G') (fun N hN => ?_) ?_
  · refine ⟨z, rfl, l, z, t, r, rfl, hq, fun G2 e2 => ⟨_, rfl, ?_⟩⟩
    rw [hs] at hN
    by_cases h : t = "step"
    · rw [if_pos (decide_eq_true h)]
      rw [if_pos h] at hN
      exact ⟨_, rfl, _, _, rfl, rfl, hN _ _ ⟨rfl, e2⟩⟩
    · rw [if_neg (by rw [decide_eq_false h]; decide)]
      rw [if_neg h] at hN
      refine n_next (hN _ _ ⟨?_, e2⟩)
      simp
  · rintro σ G' ⟨rfl, e⟩
    exact k G' e
end
section
variable {P : Program} {w : World} {K : PySem.W.Frag} {mg : Str → Option Value} {base : Heap}
theorem ok_measure (T : Txt K mg) (tb : GxR.TabB base mg T.c_has_form_of_step T.P_has_form_of_step) : FnOk P w K mg base CX0 8 T.d_measure.a T.d_measure.fd ["value"] (spMeas K T.P_has_form_of_step) := by
  refine T.d_measure.F.ok sc_measure (fun vs H Q E h => ?_) (fun cdv A outer s H vs Q E hr h => ?_)
  · obtain ⟨p, v, d, r, rfl, _⟩ := h
    rfl
  · obtain ⟨p, v, d, r, rfl, hd, hR, hT, k⟩ := h
    refine ⟨_, (pss_cons (ps_set (i := 1) sc_measure.nd rfl (Or.inl rfl) (pe_lst (pa_cons (pv 0) pa_nil)))
      (pss_cons (ps_asg2 pe_int (pg_name (i := 2) sc_measure.nd rfl (Or.inl rfl)) (pg_name (i := 3) sc_measure.nd rfl (Or.inl rfl)))
      (pss_cons (ps_while PassesOwn.never (pt_truth (pv 1) (by intro _; rfl)) (pss_cons (ps_set (i := 4) sc_measure.nd rfl (Or.inl rfl) (pe_bm0 PySem.F.plainAttrs_list PySem.F.slot_list_pop PySem.F.type_list_pop mt_pop (pv 1)))
      (pss_cons (ps_if (pt_not (pt_val (pe_call (ok_has_form_of_term T tb) (hr.mono (by decide)) (by rfl) T.d_has_form_of_term.g T.d_has_form_of_term.F.kp T.d_has_form_of_term.b .nil pass0 (pa_cons (pv 4) pa_nil)))) (pss_one (ps_ret pe_non)) pss_nil)
      (pss_cons (ps_aug (i := 3) sc_measure.nd rfl (Or.inl rfl) pe_int ip_add)
      (pss_cons (ps_if (pt_val (pe_call (ok_is_step T) (hr.mono (by decide)) (by rfl) T.d_is_step.g T.d_is_step.F.kp T.d_is_step.b .nil pass0 (pa_cons (pv 4) pa_nil))) (pss_one (ps_aug (i := 2) sc_measure.nd rfl (Or.inl rfl) pe_int ip_add)) pss_nil)
      (pss_cons (ps_if (PW.pt (pw_or (pt_cmpR op_gt (pv 2) (pe_glob (v := .int 16) rfl T.c_MOST_STEPS ⟨_, rfl⟩) (nomark _)) (pw_or1 (pt_cmpR op_gt (pv 3) (pe_glob (v := .int 48) rfl T.c_MOST_PARTS ⟨_, rfl⟩) (nomark _))))) (pss_one (ps_ret pe_non)) pss_nil)
      (pss_one (ps_expr (pe_bm PySem.F.plainAttrs_list PySem.F.slot_list_extend PySem.F.type_list_extend mt_extend (pv 1) (pa_cons (pe_call (ok_children T) (hr.mono (by decide)) (by rfl) T.d_children.g T.d_children.F.kp T.d_children.b .nil pass0 (pa_cons (pv 4) pa_nil)) pa_nil))))))))))
      (pss_one (ps_ret (pe_tup (pa_cons (pv 2) (pa_cons (pv 3) pa_nil)))))))), ?_⟩
    refine n_seq ?_
    refine ⟨v, rfl, by show 1 ≤ sizeLine; decide, fun l fl => ?_⟩
    have x0 := Ex.new (o := .lst [v]) fl
    have hd0 : Dq K l (upd H l (.lst [v])) v d := Dq.ex x0 _ _ (Dq.new fl _ _ hd)
    dsimp only
    refine n_seq ?_
    refine n_asg2 ?_
    dsimp only
    refine n_seq ?_
    have lT : l ≠ T.P_has_form_of_step := by
      rintro rfl
      obtain ⟨_, e, _⟩ := hT
      rw [fl] at e
      cases e
    have popped := fun {G : Hp} {zs : List V} {z : V} {st : List PyData} {d : PyData} => poppedX (K := K) (G := G) (zs := zs) (z := z) (st := st) (d := d) lT fl
    refine while_by (fun σ G => ∃ (s n : Nat) (st : List PyData) (ys : List V) (x : Option V), σ = [some v, some (.ref l), some (.int s), some (.int n), x] ∧ ExB T.P_has_form_of_step H G ∧ GxR.TabG G T.P_has_form_of_step ∧ G l = some (.lst ys) ∧ DqAll K l G ys st ∧ Run st s n r ∧ n ≤ 48 ∧ ys.length ≤ 1 + 3 * n)
      (fun σ _ => match σ[3]? with
        | some (some (V.int m)) => (49 - m).toNat
        | _ => 0) ⟨0, 0, [d], [v], none, rfl, Ex.b x0, tab_ex hT x0, upd_same, .cons hd0 .nil, hR, by decide, by show 1 ≤ 1 + 3 * 0; decide⟩ ?_ ?_
    · rintro σ G ⟨s, n, st, ys, x, rfl, eb, ht, hl, hA, hRun, hn, hlen⟩
      refine ⟨.ref l, rfl, !ys.isEmpty, .inl ⟨ys, SqL.of hl, rfl⟩, ?_⟩
      cases hRun with
      | done =>
        cases hA
        rw [if_neg (by decide)]
        refine ⟨_, rfl, _, rfl, by show 2 ≤ sizeLine; decide, fun t ft => ?_⟩
        have e1 := Ex.new (o := .tup [.int (s : Int), .int (n : Int)]) ft
        exact k (.ref t) _ (eb.trans (Ex.b e1)) (tab_ex ht e1) ⟨t, rfl, SqT.of upd_same⟩
      | bad hN hb =>
        obtain ⟨zs, z, rfl, hz, hq⟩ := DqAll.snoc hA
        rw [if_pos (by cases zs <;> rfl)]
        obtain ⟨eb1, ht1, hl1, hz1, hq1⟩ := popped eb ht hl hz hq
        refine n_seq ?_
        refine ⟨.ref l, rfl, .inl ⟨rfl, _, SqL.of hl⟩, l, zs ++ [z], z, rfl, rfl, hl, by simp, ?_⟩
        rw [List.dropLast_concat]
        dsimp only
        refine n_seq ?_
        refine ⟨z, rfl, l, z, _, rfl, hq1, hN, ht1, fun G2 eb2 ht2 => ⟨_, rfl, ?_⟩⟩
        dsimp only
        rw [hb, if_pos (by decide)]
        exact k .non G2 (eb1.trans eb2) ht2 rfl
      | @many st d s n hN hb hm =>
        obtain ⟨zs, z, rfl, hz, hq⟩ := DqAll.snoc hA
        rw [if_pos (by cases zs <;> rfl)]
        obtain ⟨eb1, ht1, hl1, hz1, hq1⟩ := popped eb ht hl hz hq
        refine n_seq ?_
        refine ⟨.ref l, rfl, .inl ⟨rfl, _, SqL.of hl⟩, l, zs ++ [z], z, rfl, rfl, hl, by simp, ?_⟩
        rw [List.dropLast_concat]
        dsimp only
        refine n_seq ?_
        refine ⟨z, rfl, l, z, _, rfl, hq1, hN, ht1, fun G2 eb2 ht2 => ⟨_, rfl, ?_⟩⟩
        dsimp only
        rw [hb, if_neg (by decide)]
        refine n_next ?_
        have hq2 := Dq.tb ht1 eb2 _ _ hq1
        refine n_seq ?_
        refine ⟨_, rfl, _, _, rfl, rfl, ?_⟩
        dsimp only
        refine counted hb hq2 fun G3 e3 => ?_
        refine n_seq ?_
        refine s_if (b := true) (et_is (et_or (et_test (ev_op (ev_var rfl) ev_c rv_I0)) fun _ => et_test (ev_op (ev_var rfl) ev_c rv_I0)) ?_) (fun _ G4 e4 => ?_) fun y => nomatch y
        · rw [Bool.or_eq_true, decide_eq_true_iff, decide_eq_true_iff]
          omega
        · exact k .non G4 ((eb1.trans eb2).trans (Ex.b (e3.trans e4))) (tab_ex ht2 (e3.trans e4)) rfl
      | @go st d s n r hN hb h1 h2 h3 hR' =>
        obtain ⟨zs, z, rfl, hz, hq⟩ := DqAll.snoc hA
        rw [if_pos (by cases zs <;> rfl)]
        obtain ⟨eb1, ht1, hl1, hz1, hq1⟩ := popped eb ht hl hz hq
        refine n_seq ?_
        refine ⟨.ref l, rfl, .inl ⟨rfl, _, SqL.of hl⟩, l, zs ++ [z], z, rfl, rfl, hl, by simp, ?_⟩
        rw [List.dropLast_concat]
        dsimp only
        refine n_seq ?_
        refine ⟨z, rfl, l, z, _, rfl, hq1, hN, ht1, fun G2 eb2 ht2 => ⟨_, rfl, ?_⟩⟩
        dsimp only
        rw [hb, if_neg (by decide)]
        refine n_next ?_
        have hq2 := Dq.tb ht1 eb2 _ _ hq1
        refine n_seq ?_
        refine ⟨_, rfl, _, _, rfl, rfl, ?_⟩
        dsimp only
        refine counted hb hq2 fun G3 e3 => ?_
        refine n_seq ?_
        refine s_if (b := false) (et_is (et_or (et_test (ev_op (ev_var rfl) ev_c rv_I0)) fun _ => et_test (ev_op (ev_var rfl) ev_c rv_I0)) ?_) (fun y => nomatch y) fun _ G4 e4 => ?_
        · rw [Bool.or_eq_false_iff, decide_eq_false_iff_not, decide_eq_false_iff_not]
          omega
        refine n_next ?_
        have e34 := e3.trans e4
        have hl2 : G2 l = some (.lst zs) := eb2 l _ lT hl1
        have hl4 := e34 _ _ hl2
        have hz4 := DqAll.ex e34 _ _ (DqAll.tb ht1 eb2 _ _ hz1)
        have hq4 := Dq.ex e34 _ _ hq2
        refine ⟨.ref l, rfl, .inl ⟨rfl, _, SqL.of hl4⟩, ?_⟩
        refine ⟨z, rfl, l, z, d, rfl, hq4, hb, fun l2 ys2 G5 e5 f5 hl5 hA5 => ?_⟩
        have ll : l ≠ l2 := ne_of_none hl4 f5
        have y2 : ys2.length ≤ 3 := by rw [hA5.len]; exact h3
        have zl : zs.length ≤ 3 * n := by
          rw [List.length_append] at hlen
          simp at hlen
          omega
        refine ⟨l, l2, zs, ys2, rfl, rfl, e5 _ _ hl4, hl5, Nat.le_of_lt (small1000 (by omega)), ?_⟩
        have e1 : ExB l G5 (upd G5 l (.lst (zs ++ ys2))) := ExB.upd (ExB.refl l G5)
        have ht5 := tab_ex ht2 (e34.trans e5)
        refine ⟨⟨s + isStD d, n + 1, st ++ kidsD d, zs ++ ys2, some z, ?_, fun b o nb e => ?_, ?_, upd_same, ?_, hR', h2, ?_⟩, ?_⟩
        · simp
        · rw [upd_ne (ne_of_none e fl)]
          exact e5 _ _ (e34 _ _ (eb2 b o nb (eb1 b o nb e)))
        · obtain ⟨ps, p1, p2⟩ := ht5
          exact ⟨ps, by rw [upd_ne lT.symm]; exact p1, p2⟩
        · have hl5' := e5 _ _ hl4
          exact (DqAll.exb hl5' e1 _ _ (DqAll.ex e5 _ _ hz4)).append (DqAll.exb hl5' e1 _ _ hA5)
        · rw [List.length_append]
          omega
        · show (49 - ((n : Int) + 1)).toNat < (49 - (n : Int)).toNat
          omega
    · rintro σ G Q Q' hq ⟨x, h1, b, h2, h3⟩
      exact ⟨x, h1, b, h2, hq _ _ h3⟩
end
/-! ### is_mix, require_mix -/
/-- how the walk over a mix's terms goes on -/
inductive MixW : List PyData → Nat → Nat → Bool → Prop
  | done {s n : Nat} : MixW [] s n (decide (s ≤ 16) && decide (n ≤ 96))
  | bad {d : PyData} {ds : List PyData} {s n : Nat} : Run [d] 0 0 none → MixW (d :: ds) s n false
  | go {d : PyData} {ds : List PyData} {s n a c : Nat} {b : Bool} : Run [d] 0 0 (some (a, c)) → MixW ds (s + a) (n + c) b → MixW (d :: ds) s n b
inductive MixR : PyData → Bool → Prop
  | off {d : PyData} : isTup d = false → MixR d false
  | len {ds : List PyData} : ¬ (1 ≤ ds.length ∧ ds.length ≤ 4) → MixR (.tuple ds) false
  | go {ds : List PyData} {b : Bool} : 1 ≤ ds.length → ds.length ≤ 4 → MixW ds 0 0 b → MixR (.tuple ds) b
def spMix (K : PySem.W.Frag) (T : Addr) : Sp := fun vs H Q _ => ∃ (p : Addr) (v : V) (d : PyData) (b : Bool), vs = [v] ∧ Dq K p H v d ∧ MixR d b ∧ GxR.TabG H T ∧ ∀ H', ExB T H H' → GxR.TabG H' T → Q (.bl b) H'
def spReqM (K : PySem.W.Frag) (T C : Addr) : Sp := fun vs H Q E => ∃ (p : Addr) (v : V) (d : PyData) (b : Bool), vs = [v] ∧ Dq K p H v d ∧ MixR d b ∧ GxR.TabG H T ∧
  (b = true → ∀ H', ExB T H H' → GxR.TabG H' T → Q .non H') ∧ (b = false → ∀ H', ExB T H H' → GxR.TabG H' T → Er C v H' E)
theorem le_dec {a : Nat} {b : Nat} : decide ((a : Int) ≤ (b : Int)) = decide (a ≤ b) := by
  rw [Bool.eq_iff_iff, decide_eq_true_iff, decide_eq_true_iff]
  omega
section
variable {P : Program} {w : World} {K : PySem.W.Frag} {mg : Str → Option Value} {base : Heap}
theorem ok_is_mix (T : Txt K mg) (tb : GxR.TabB base mg T.c_has_form_of_step T.P_has_form_of_step) : FnOk P w K mg base CX0 9 T.d_is_mix.a T.d_is_mix.fd ["value"] (spMix K T.P_has_form_of_step) := by
  refine T.d_is_mix.F.ok sc_is_mix (fun vs H Q E h => ?_) (fun cdv A outer s H vs Q E hr h => ?_)
  · obtain ⟨p, v, d, b, rfl, _⟩ := h
    rfl
  · obtain ⟨p, v, d, b, rfl, hd, hR, hT, k⟩ := h
    refine ⟨_, (pss_cons (ps_if (PW.pt (pw_or (pt_not (pt_val (pe_callB call_isi (by rfl) T.n_isinstance (by decide +kernel) (pa_cons (pv 0) (pa_cons (pe_bltn (v := .ty "tuple") (by rfl) T.n_tuple (by decide +kernel) rfl) pa_nil))))) (pw_or1 (pt_not (pt_chain op_le op_le pe_int (pe_callB call_len_seq (by rfl) T.n_len (by decide +kernel) (pa_cons (pv 0) pa_nil)) (pe_glob (v := .int 4) rfl T.c_MOST_TERMS ⟨_, rfl⟩)))))) (pss_one (ps_ret pe_bl)) pss_nil)
      (pss_cons (ps_asg2 pe_int (pg_name (i := 1) sc_is_mix.nd rfl (Or.inl rfl)) (pg_name (i := 2) sc_is_mix.nd rfl (Or.inl rfl)))
      (pss_cons (ps_for PassesOwn.never rfl (pi_tup (pv 0)) (pg_name (i := 3) sc_is_mix.nd rfl (Or.inl rfl)) (pss_cons (ps_set (i := 4) sc_is_mix.nd rfl (Or.inl rfl) (pe_call (ok_measure T tb) (hr.mono (by decide)) (by rfl) T.d_measure.g T.d_measure.F.kp T.d_measure.b .nil pass0 (pa_cons (pv 3) pa_nil)))
      (pss_cons (ps_if (pt_cmpR op_isN (pv 4) pe_non (nomark _)) (pss_one (ps_ret pe_bl)) pss_nil)
      (pss_cons (ps_aug (i := 1) sc_is_mix.nd rfl (Or.inl rfl) (pe_ix ix_tup (pv 4) pe_int (fun _ _ => rfl)) ip_add)
      (pss_one (ps_aug (i := 2) sc_is_mix.nd rfl (Or.inl rfl) (pe_ix ix_tup (pv 4) pe_int (fun _ _ => rfl)) ip_add))))))
      (pss_one (ps_ret (pe_and (pe_cmpR op_le (pv 1) (pe_glob (v := .int 16) rfl T.c_MOST_STEPS ⟨_, rfl⟩) (nomark _)) (pe_one (pe_cmpR op_le (pv 2) (pe_glob (v := .int 96) rfl T.c_MOST_MIX_PARTS ⟨_, rfl⟩) (nomark _))))))))), ?_⟩
    have lenB : ∀ {ds : List PyData} {σ : L2.St} {H1 : Hp}, σ[0]? = some (some v) → Dq K p H1 v (.tuple ds) → Ev (tChain (rI0 fun i j => .bl (decide (i ≤ j))) (rI0 fun i j => .bl (decide (i ≤ j))) (tC (.int 1)) (tCB (fun xs H_1 Q => ∃ p ys, xs = [V.ref p] ∧ (SqL K H_1 p ys ∨ SqT K H_1 p ys) ∧ Q (V.int ys.length) H_1) (tCons (tVar 0) tNil)) (tC (.int 4))) σ H1 (.bl (decide (1 ≤ ds.length) && decide (ds.length ≤ 4))) := fun {ds σ H1} hv hd => by
      refine ev_chain ev_c (ev_lenT hv hd) ev_c (fun H => ?_) fun H => ?_
      · have := rv_I0 (H := H) (g := fun i j => .bl (decide (i ≤ j))) (i := ((1 : Nat) : Int)) (j := (ds.length : Int))
        rw [le_dec] at this
        exact this
      · have := rv_I0 (H := H) (g := fun i j => .bl (decide (i ≤ j))) (i := (ds.length : Int)) (j := ((4 : Nat) : Int))
        rw [le_dec] at this
        exact this
    cases hR with
    | off ht => exact s_if (b := true) (et_is (et_or (a := true) (b := true) (et_is (et_not (et_B (ev_isi rfl hd (kit_tup d)))) (by rw [ht]; rfl)) fun z => nomatch z) rfl) (fun z H1 e1 => k H1 (Ex.b e1) (tab_ex hT e1)) fun z => nomatch z
    | @len ds hl =>
      refine s_if (b := true) (et_is (et_or (a := false) (b := true) (et_is (et_not (et_B (ev_isi rfl hd (kit_tup _)))) rfl) fun _ => et_is (et_not (et_test (lenB rfl hd))) ?_) rfl) (fun z H1 e1 => k H1 (Ex.b e1) (tab_ex hT e1)) fun z => nomatch z
      rw [Bool.not_eq_true', Bool.and_eq_false_iff, decide_eq_false_iff_not, decide_eq_false_iff_not]
      omega
    | @go ds b l1 l4 hW =>
      refine s_if (b := false) (et_is (et_or (a := false) (b := false) (et_is (et_not (et_B (ev_isi rfl hd (kit_tup _)))) rfl) fun _ => et_is (et_not (et_test (lenB rfl hd))) ?_) rfl) (fun z => nomatch z) fun _ H1 e1 => ?_
      · rw [decide_eq_true l1, decide_eq_true l4]
        rfl
      obtain ⟨a, xs, rfl, hS, hA⟩ := (Dq.ex e1 _ _ hd).seq
      have hT1 := tab_ex hT e1
      refine n_next ?_
      dsimp only
      refine n_seq ?_
      refine n_asg2 ?_
      dsimp only
      refine n_seq ?_
      refine ⟨_, rfl, a, rfl, ⟨_, hS⟩, ?_⟩
      refine for_tup (K := K) (a := a) (xs := xs) (fun i σ G => ∃ (s n : Nat) (y1 y2 : Option V), σ = [some (.ref a), some (.int s), some (.int n), y1, y2] ∧ ExB T.P_has_form_of_step H1 G ∧ GxR.TabG G T.P_has_form_of_step ∧ MixW (ds.drop i) s n b)
        ⟨0, 0, none, none, rfl, ExB.refl _ _, hT1, hW⟩ (fun i σ G _ ⟨_, _, _, _, _, eb, _, _⟩ => tb_t hT1 eb hS) ?_ ?_
      · rintro i x σ G hx ⟨s, n, y1, y2, rfl, eb, ht, hM⟩
        have il : i < ds.length := by rw [← hA.len]; exact (List.getElem?_eq_some_iff.mp hx).1
        obtain ⟨x', hx', qx⟩ := hA.get (List.getElem?_eq_getElem il)
        rw [hx] at hx'
        cases hx'
        have qx' := Dq.tb hT1 eb _ _ qx
        rw [List.drop_eq_getElem_cons il] at hM
        refine n_name ?_
        dsimp only
        refine n_seq ?_
        cases hM with
        | bad hR =>
          refine ⟨x, rfl, p, x, _, none, rfl, qx', hR, ht, fun z G2 eb2 ht2 hz => ?_⟩
          obtain rfl : z = .non := hz
          dsimp only
          refine n_seq ?_
          refine ⟨_, rfl, rfl, _, rfl, ?_⟩
          refine iteT ?_
          exact k G2 (((Ex.b e1).trans eb).trans eb2) ht2
        | @go _ _ _ _ a1 c1 _ hR hM' =>
          refine ⟨x, rfl, p, x, _, some (a1, c1), rfl, qx', hR, ht, fun z G2 eb2 ht2 hz => ?_⟩
          obtain ⟨t, rfl, hS2⟩ := hz
          dsimp only
          refine n_seq ?_
          refine ⟨_, rfl, rfl, _, rfl, ?_⟩
          refine iteF ?_
          refine n_next ?_
          dsimp only
          refine n_seq ?_
          refine ⟨_, rfl, _, rfl, t, _, 0, _, rfl, rfl, hS2, rfl, _, _, rfl, rfl, ?_⟩
          dsimp only
          refine ⟨_, rfl, _, rfl, t, _, 1, _, rfl, rfl, hS2, rfl, _, _, rfl, rfl, ?_⟩
          exact ⟨s + a1, n + c1, some x, some (.ref t), by rw [Int.natCast_add, Int.natCast_add]; rfl, eb.trans eb2, ht2, hM'⟩
      · rintro σ G ⟨s, n, y1, y2, rfl, eb, ht, hM⟩
        rw [hA.len, List.drop_length] at hM
        cases hM
        refine s_ret (ev_andV (a := decide (s ≤ 16)) (b := decide (n ≤ 96)) (ev_is (ev_op (ev_var rfl) ev_c rv_I0) (by rw [← le_dec]; rfl)) fun _ => ev_is (ev_op (ev_var rfl) ev_c rv_I0) (by rw [← le_dec]; rfl)) fun G2 e2 => ?_
        exact k G2 (((Ex.b e1).trans eb).trans (Ex.b e2)) (tab_ex ht e2)
theorem ok_require_mix (T : Txt K mg) (tb : GxR.TabB base mg T.c_has_form_of_step T.P_has_form_of_step) : FnOk P w K mg base (L2.CX P w) 10 T.d_require_mix.a T.d_require_mix.fd ["value"] (spReqM K T.P_has_form_of_step T.E_BadMix.C) := by
  refine T.d_require_mix.F.okX sc_require_mix (fun vs H Q E h => ?_) (fun cdv A outer s H vs Q E hr h => ?_)
  · obtain ⟨p, v, d, b, rfl, _⟩ := h
    rfl
  · obtain ⟨p, v, d, b, rfl, hd, hR, hT, k1, k2⟩ := h
    refine ⟨_, (pss_one (ps_if (pt_not (pt_val (pe_call (ok_is_mix T tb) (hr.mono (by decide)) (by rfl) T.d_is_mix.g T.d_is_mix.F.kp T.d_is_mix.b .nil pass0 (pa_cons (pv 0) pa_nil)))) (pss_one (ps_raise rfl (takes_of rfl rfl rfl rfl) (pmk_oex T.E_BadMix.x.oex T.E_BadMix.x.i T.E_BadMix.x.t (ok_i_BadMix T) (hr.mono (by decide)) T.E_BadMix.b .nil pass0 (by rfl) T.E_BadMix.g (pa_cons (pv 0) pa_nil)))) pss_nil)), ?_⟩
    refine ⟨v, rfl, p, v, d, b, rfl, hd, hR, hT, fun H1 eb ht => ⟨_, rfl, ?_⟩⟩
    dsimp only
    cases b with
    | true =>
      rw [if_neg (by decide)]
      exact k1 rfl H1 eb ht
    | false =>
      rw [if_pos (by decide)]
      exact rd_raise rfl (k2 rfl H1 eb ht)
end
/-! ### product_of, size_of_term, size_of_mix, size -/
theorem ip_mulW {X : Cx} : PIp X .Mult (fun x y H Q => ∃ i j, x = .int i ∧ y = .int j ∧ CMulW i j ∧ Q (.int (i * j)) H) := by
  intro pins s σ H x y v u Q I r1 r2 h
  obtain ⟨i, j, rfl, rfl, hc, q⟩ := h
  obtain ⟨t, rfl⟩ := r1
  obtain ⟨t', rfl⟩ := r2
  exact imul_int ⟨.int _, H, I.tok _, ⟨_, rfl⟩, q⟩ hc.ok
def prodN : List Nat → Nat
  | [] => 1
  | n :: ns => n * prodN ns
def intsN (ns : List Nat) : List V := ns.map fun (n : Nat) => V.int n
/-- what stays small: each, and what they come to in front -/
def SmallP (ns : List Nat) : Prop := ∀ i, prodN (ns.take i) < 2 ^ 1000 ∧ ∀ n ∈ ns, n < 2 ^ 1000
theorem prodN_snoc : ∀ (ns : List Nat) (n : Nat), prodN (ns ++ [n]) = prodN ns * n
  | [], n => by simp [prodN]
  | m :: ns, n => by
    show m * prodN (ns ++ [n]) = m * prodN ns * n
    rw [prodN_snoc ns n, Nat.mul_assoc]
def spProd (K : PySem.W.Frag) : Sp := fun vs H Q _ => ∃ (a : Addr) (ns : List Nat), vs = [.ref a] ∧ SqL K H a (intsN ns) ∧ SmallP ns ∧ Q (.int (prodN ns : Nat)) H
mutual
/-- a term's size, counted within so many levels -/
inductive Sz : Nat → PyData → Nat → Prop
  | mk {k : Nat} {d : PyData} {ns : List Nat} : headB d = true → SzA k (kidsD d) ns → SmallP ns → Sz (k + 1) d (if isStD d = 1 then 1 + ns.sum else prodN ns)
inductive SzA : Nat → List PyData → List Nat → Prop
  | nil {k : Nat} : SzA k [] []
  | cons {k : Nat} {d : PyData} {ds : List PyData} {n : Nat} {ns : List Nat} : Sz k d n → SzA k ds ns → SzA k (d :: ds) (n :: ns)
end
theorem SzA.len : ∀ {k : Nat} {ds : List PyData} {ns : List Nat}, SzA k ds ns → ds.length = ns.length
  | _, _, _, .nil => rfl
  | _, _, _, .cons _ h => congrArg Nat.succ h.len
theorem SzA.get : ∀ {k : Nat} {ds : List PyData} {ns : List Nat} {i : Nat} {d : PyData}, SzA k ds ns → ds[i]? = some d → ∃ n, ns[i]? = some n ∧ Sz k d n
  | _, _, _, i, d, .nil, e => by simp at e
  | _, _, _, 0, d, .cons h _, e => by
    simp only [List.getElem?_cons_zero, Option.some.injEq] at e
    subst e
    exact ⟨_, rfl, h⟩
  | _, _, _, i + 1, d, .cons _ h, e => by
    simp only [List.getElem?_cons_succ] at e ⊢
    exact h.get e
def spSize (K : PySem.W.Frag) (k : Nat) : Sp := fun vs H Q _ => ∃ (p : Addr) (v : V) (d : PyData) (n : Nat), vs = [v] ∧ Dq K p H v d ∧ Sz k d n ∧ ∀ H', Ex H H' → Q (.int (n : Nat)) H'
def spSzM (K : PySem.W.Frag) : Sp := fun vs H Q _ => ∃ (p : Addr) (v : V) (ds : List PyData) (ns : List Nat), vs = [v] ∧ Dq K p H v (.tuple ds) ∧ SzA 16 ds ns ∧ SmallP ns ∧ ds.length ≤ 4 ∧ ∀ H', Ex H H' → Q (.int (prodN ns : Nat)) H'
def spSizeX (K : PySem.W.Frag) (T C : Addr) : Sp := fun vs H Q E => ∃ (p : Addr) (v : V) (d : PyData) (b : Bool), vs = [v] ∧ Dq K p H v d ∧ MixR d b ∧ GxR.TabG H T ∧
  (b = true → ∃ (ds : List PyData) (ns : List Nat), d = .tuple ds ∧ SzA 16 ds ns ∧ SmallP ns ∧ ds.length ≤ 4 ∧ ∀ H', ExB T H H' → GxR.TabG H' T → Q (.int (prodN ns : Nat)) H') ∧
  (b = false → ∀ H', ExB T H H' → GxR.TabG H' T → Er C v H' E)
section
variable {P : Program} {w : World} {K : PySem.W.Frag} {mg : Str → Option Value} {base : Heap}
theorem ok_product_of (T : Txt K mg) : FnOk P w K mg base CX0 1 T.d_product_of.a T.d_product_of.fd ["integers"] (spProd K) := by
  refine T.d_product_of.F.ok sc_product_of (fun vs H Q E h => ?_) (fun cdv A outer s H vs Q E hr h => ?_)
  · obtain ⟨a, ns, rfl, _⟩ := h
    rfl
  · obtain ⟨a, ns, rfl, hS, hb, k⟩ := h
    refine ⟨_, (pss_cons (ps_set (i := 1) sc_product_of.nd rfl (Or.inl rfl) pe_int)
      (pss_cons (ps_for PassesOwn.never rfl (pi_list (pv 0)) (pg_name (i := 2) sc_product_of.nd rfl (Or.inl rfl)) (pss_one (ps_aug (i := 1) sc_product_of.nd rfl (Or.inl rfl) (pv 2) ip_mulW)))
      (pss_one (ps_ret (pv 1))))), ?_⟩
    refine n_seq (n_c ?_)
    dsimp only
    refine n_seq ?_
    refine ⟨_, rfl, a, rfl, ⟨_, hS⟩, ?_⟩
    refine for_list (K := K) (a := a) (xs := intsN ns) (fun i σ G => G = H ∧ ∃ x : Option V, σ = [some (.ref a), some (.int (prodN (ns.take i) : Nat)), x]) ⟨rfl, none, rfl⟩ (fun i σ G _ ⟨e, _⟩ => by rw [e]; exact hS) ?_ ?_
    · rintro i x σ G hx ⟨rfl, y, rfl⟩
      unfold intsN at hx
      rw [List.getElem?_map] at hx
      cases hn : ns[i]? with
      | none => rw [hn] at hx; cases hx
      | some n =>
        rw [hn] at hx
        cases hx
        refine n_name ?_
        dsimp only
        have h1 := (hb i).1
        have h2 := (hb i).2 n (List.mem_of_getElem? hn)
        refine ⟨_, rfl, _, rfl, _, _, rfl, rfl, mulW (a := 1000) (b := 1000) (by omega) (by omega) (by decide), rfl, some (V.int n), ?_⟩
        rw [List.take_succ, hn]
        show _ = [_, some (V.int ((prodN (ns.take i ++ [n]) : Nat) : Int)), _]
        rw [prodN_snoc, Int.natCast_mul]
        rfl
    · rintro σ G ⟨rfl, y, rfl⟩
      have e : ns.take (intsN ns).length = ns := by
        unfold intsN
        rw [List.length_map, List.take_length]
      rw [e]
      exact ⟨_, rfl, k⟩
theorem ok_size_of_term (T : Txt K mg) : ∀ k, FnOk P w K mg base CX0 (3 + k) T.d_size_of_term.a T.d_size_of_term.fd ["term"] (spSize K k) := by
  intro k
  induction k with
  | zero =>
    refine (T.d_size_of_term.F.ok (k := 2) sc_size_of_term (fun vs H Q E h => ?_) fun cdv A outer s H vs Q E hr h => ?_)
    · obtain ⟨p, v, d, n, rfl, _⟩ := h
      rfl
    · obtain ⟨p, v, d, n, rfl, _, hz, _⟩ := h
      cases hz
  | succ k ih =>
    refine (T.d_size_of_term.F.ok (k := 3 + k) sc_size_of_term (fun vs H Q E h => ?_) fun cdv A outer s H vs Q E hr h => ?_)
    · obtain ⟨p, v, d, n, rfl, _⟩ := h
      rfl
    · obtain ⟨p, v, d, n, rfl, hd, hz, kk⟩ := h
      refine ⟨_, (pss_cons (ps_setLc (i := 1) (own := [("inner", 2)]) (g := gName 2) (tt := tYes) rfl sc_size_of_term.nd rfl rfl (sw_true rfl rfl rfl (by decide +kernel)) (pi_list (pe_call (ok_children T) (hr.mono (by omega)) (by rfl) T.d_children.g T.d_children.F.kp T.d_children.b .nil pass0 (pa_cons (pv 0) pa_nil))) (blkOk_by (own := [("inner", 2)]) (N := n_size_of_term) (sc := defScope s_size_of_term) (by decide +kernel)) (fun _ _ _ _ _ => pg_name (i := 2) sc_size_of_term.nd rfl (Or.inl rfl)) (fun _ _ _ _ _ => pts_nil) (fun _ _ _ _ _ => (pe_call ih (hr.mono (by omega)) (by rfl) T.d_size_of_term.g T.d_size_of_term.F.kp T.d_size_of_term.b .nil pass0 (pa_cons (pv 2) pa_nil))))
      (pss_cons (ps_if (pt_val (pe_call (ok_is_step T) (hr.mono (by omega)) (by rfl) T.d_is_step.g T.d_is_step.F.kp T.d_is_step.b .nil pass0 (pa_cons (pv 0) pa_nil))) (pss_one (ps_ret (pe_op op_add pe_int (pe_callB (cr_sum rfl) (by rfl) T.n_sum (by decide +kernel) (pa_cons (pv 1) pa_nil))))) pss_nil)
      (pss_one (ps_ret (pe_call (ok_product_of T) (hr.mono (by omega)) (by rfl) T.d_product_of.g T.d_product_of.F.kp T.d_product_of.b .nil pass0 (pa_cons (pv 1) pa_nil)))))), ?_⟩
      cases hz with
      | @mk _ _ ns hb hA hB =>
      refine n_seq ?_
      refine ⟨v, rfl, p, v, d, rfl, hd, hb, fun l ys G e fl hl hD => ⟨l, rfl, ⟨_, SqL.of hl⟩, fun D nD => ?_⟩⟩
      have lD : l ≠ D := ne_of_none hl nD
      have ysl : ys.length = ns.length := by rw [hD.len, hA.len]
      have y3 : ys.length ≤ 3 := by
        rw [hD.len]
        rcases headB_cases hb with rfl | ⟨ts, rfl, _, h3⟩ | ⟨q, os, rfl, _, h3, _⟩
        · exact Nat.zero_le _
        · exact h3
        · show (os.map sndD).length ≤ 3
          rw [List.length_map]
          exact h3
      refine lc_list (K := K) (a := l) (xs := ys) (fun i G' => Ex G G' ∧ G' D = some (.lst (intsN (ns.take i)))) ⟨Ex.new nD, upd_same⟩ (fun i G' _ h => SqL.of (h.1 _ _ hl)) ?_ ?_
      · rintro i x G1 hx ⟨e1, h1⟩
        have il : i < ys.length := (List.getElem?_eq_some_iff.mp hx).1
        obtain ⟨di, hdi⟩ : ∃ di, (kidsD d)[i]? = some di := ⟨_, List.getElem?_eq_getElem (by rw [← hD.len]; exact il)⟩
        obtain ⟨x', hx', qx⟩ := hD.get hdi
        rw [hx] at hx'
        cases hx'
        obtain ⟨ni, hni, hsz⟩ := hA.get hdi
        refine ⟨rfl, ?_⟩
        refine yes_of ?_
        rw [if_pos rfl]
        refine ⟨x, rfl, p, x, di, ni, rfl, Dq.ex e1 _ _ qx, hsz, fun G2 e2 => ?_⟩
        refine ⟨_, e2 _ _ h1, small1000 (by unfold intsN; rw [List.length_map, List.length_take]; omega), Ex.mut (e1.trans e2) nD, ?_⟩
        rw [upd_same, List.take_succ, hni]
        unfold intsN
        rw [List.map_append]
        rfl
      · rintro G1 ⟨e1, h1⟩
        rw [ysl, List.take_length] at h1
        refine n_name ?_
        dsimp only
        obtain ⟨t, r, rfl, hs⟩ := headB_name hb
        have hd1 := Dq.ex (e.trans e1) _ _ hd
        refine n_seq ?_
        refine ⟨v, rfl, p, v, t, r, rfl, hd1, fun G2 e2 => ⟨_, rfl, ?_⟩⟩
        by_cases h : t = "step"
        · rw [if_pos h] at hs
          rw [if_pos hs] at kk
          rw [if_pos (decide_eq_true h)]
          refine ⟨_, rfl, D, ns.map fun (n : Nat) => (n : Int), rfl, ?_, _, _, rfl, rfl, ?_⟩
          · rw [List.map_map]
            exact SqL.of (e2 _ _ h1)
          · have es : (ns.map fun (n : Nat) => (n : Int)).sum = ((ns.sum : Nat) : Int) := by
              clear kk h1 hB hA ysl
              induction ns with
              | nil => rfl
              | cons n ns ih =>
                rw [List.map_cons, List.sum_cons, List.sum_cons, ih, Int.natCast_add]
            rw [es]
            have := kk G2 ((e.trans e1).trans e2)
            rw [Int.natCast_add] at this
            exact this
        · rw [if_neg h] at hs
          rw [if_neg (by rw [hs]; decide)] at kk
          rw [if_neg (by rw [decide_eq_false h]; decide)]
          refine n_next ?_
          dsimp only
          exact ⟨_, rfl, D, ns, rfl, SqL.of (e2 _ _ h1), hB, kk G2 ((e.trans e1).trans e2)⟩
theorem ok_size_of_mix (T : Txt K mg) : FnOk P w K mg base CX0 20 T.d_size_of_mix.a T.d_size_of_mix.fd ["mix"] (spSzM K) := by
  refine T.d_size_of_mix.F.ok sc_size_of_mix (fun vs H Q E h => ?_) (fun cdv A outer s H vs Q E hr h => ?_)
  · obtain ⟨p, v, ds, ns, rfl, _⟩ := h
    rfl
  · obtain ⟨p, v, ds, ns, rfl, hd, hA, hB, l4, k⟩ := h
    refine ⟨_, (pss_one (ps_ret (pe_call (ok_product_of T) (hr.mono (by decide)) (by rfl) T.d_product_of.g T.d_product_of.F.kp T.d_product_of.b .nil pass0 (pa_cons (pe_lc (own := [("term", 1)]) (g := gName 1) (tt := tYes) rfl sc_size_of_mix.nd (pi_tup (pv 0)) (blkOk_by (own := [("term", 1)]) (N := n_size_of_mix) (sc := defScope s_size_of_mix) (by decide +kernel)) (fun _ _ _ _ _ => pg_name (i := 1) sc_size_of_mix.nd rfl (Or.inl rfl)) (fun _ _ _ _ _ => pts_nil) (fun _ _ _ _ _ => (pe_call (ok_size_of_term T 16) (hr.mono (by decide)) (by rfl) T.d_size_of_term.g T.d_size_of_term.F.kp T.d_size_of_term.b .nil pass0 (pa_cons (pv 1) pa_nil)))) pa_nil)))), ?_⟩
    obtain ⟨a, xs, rfl, hS, hD⟩ := hd.seq
    have xl : xs.length = ns.length := by rw [hD.len, hA.len]
    have nl : ns.length ≤ 4 := by rw [← hA.len]; exact l4
    refine ⟨_, rfl, a, rfl, ⟨_, hS⟩, fun D nD => ?_⟩
    refine lc_tup (K := K) (a := a) (xs := xs) (fun i G' => Ex H G' ∧ G' D = some (.lst (intsN (ns.take i)))) ⟨Ex.new nD, upd_same⟩ (fun i G' _ h => ex_t h.1 hS) ?_ ?_
    · rintro i x G1 hx ⟨e1, h1⟩
      have il : i < xs.length := (List.getElem?_eq_some_iff.mp hx).1
      obtain ⟨di, hdi⟩ : ∃ di, ds[i]? = some di := ⟨_, List.getElem?_eq_getElem (by rw [← hD.len]; exact il)⟩
      obtain ⟨x', hx', qx⟩ := hD.get hdi
      rw [hx] at hx'
      cases hx'
      obtain ⟨ni, hni, hsz⟩ := hA.get hdi
      refine ⟨rfl, ?_⟩
      refine yes_of ?_
      rw [if_pos rfl]
      refine ⟨x, rfl, p, x, di, ni, rfl, Dq.ex e1 _ _ qx, hsz, fun G2 e2 => ?_⟩
      refine ⟨_, e2 _ _ h1, small1000 (by unfold intsN; rw [List.length_map, List.length_take]; omega), Ex.mut (e1.trans e2) nD, ?_⟩
      rw [upd_same, List.take_succ, hni]
      unfold intsN
      rw [List.map_append]
      rfl
    · rintro G1 ⟨e1, h1⟩
      rw [xl, List.take_length] at h1
      exact ⟨D, ns, rfl, SqL.of h1, hB, k G1 e1⟩
theorem ok_size (T : Txt K mg) (tb : GxR.TabB base mg T.c_has_form_of_step T.P_has_form_of_step) : FnOk P w K mg base (L2.CX P w) 21 T.d_size.a T.d_size.fd ["mix"] (spSizeX K T.P_has_form_of_step T.E_BadMix.C) := by
  refine T.d_size.F.okX sc_size (fun vs H Q E h => ?_) (fun cdv A outer s H vs Q E hr h => ?_)
  · obtain ⟨p, v, d, b, rfl, _⟩ := h
    rfl
  · obtain ⟨p, v, d, b, rfl, hd, hR, hT, k1, k2⟩ := h
    refine ⟨_, (pss_cons (ps_expr (pe_call (ok_require_mix T tb) (hr.mono (by decide)) (by rfl) T.d_require_mix.g T.d_require_mix.F.kp T.d_require_mix.b .nil (passes_call (takes_of rfl rfl rfl rfl) fun _ _ _ _ h => h) (pa_cons (pv 0) pa_nil)))
      (pss_one (ps_ret (pe_call (ok_size_of_mix T) (hr.mono (by decide)) (by rfl) T.d_size_of_mix.g T.d_size_of_mix.F.kp T.d_size_of_mix.b .nil pass0 (pa_cons (pv 0) pa_nil))))), ?_⟩
    refine n_seq ?_
    refine ⟨v, rfl, p, v, d, b, rfl, hd, hR, hT, fun hb H1 eb ht => ?_, k2⟩
    obtain ⟨ds, ns, rfl, hA, hB, l4, k⟩ := k1 hb
    exact ⟨v, rfl, p, v, ds, ns, rfl, Dq.tb hT eb _ _ hd, hA, hB, l4, fun H2 e2 => k H2 (eb.trans (Ex.b e2)) (tab_ex ht e2)⟩
end
/-! ### the law's own fractions -/
theorem nat_abs_if (n : Int) : (if n < 0 then -n else n) = ((n.natAbs : Nat) : Int) := by
  by_cases h : n < 0
  · rw [if_pos h]; omega
  · rw [if_neg h]; omega
def spFr (K : PySem.W.Frag) : Sp := fun vs H Q _ => ∃ (n d : Int) (b : Nat), vs = [.int n, .int d] ∧ 0 < d ∧ n.natAbs < 2 ^ b ∧ d.natAbs < 2 ^ b ∧ b ≤ 1900 ∧ ∀ z H', Ex H H' → Fr K b (Rat.divInt n d) z H' → Q z H'
section
variable {P : Program} {w : World} {K : PySem.W.Frag} {mg : Str → Option Value} {base : Heap}
theorem ok__law_fr (T : Txt K mg) : FnOk P w K mg base CX0 1 T.d__law_fr.a T.d__law_fr.fd ["_law_top", "_law_bottom"] (spFr K) := by
  refine T.d__law_fr.F.ok sc__law_fr (fun vs H Q E h => ?_) (fun cdv A outer s H vs Q E hr h => ?_)
  · obtain ⟨n, d, b, rfl, _⟩ := h
    rfl
  · obtain ⟨n, d, b, rfl, hd, hn, hb, hl, k⟩ := h
    refine ⟨_, (pss_cons (ps_par (i := 2) (j := 3) (by rfl) sc__law_fr.nd rfl rfl (by decide) rfl rfl (pa_cons (pe_callB call_abs (by rfl) T.n_abs (by decide +kernel) (pa_cons (pv 0) pa_nil)) (pa_cons (pv 1) pa_nil)) (by rfl))
      (pss_cons (ps_while PassesOwn.never (pt_cmpR op_ne (pv 3) pe_int (nomark _)) (pss_one (ps_par (i := 2) (j := 3) (by rfl) sc__law_fr.nd rfl rfl (by decide) rfl rfl (pa_cons (pv 3) (pa_cons (pe_op op_mod (pe_callTy call_int1 (by rfl) T.n_int (by decide +kernel) (pa_cons (pv 2) pa_nil)) (pv 3)) pa_nil)) (by rfl))))
      (pss_one (ps_ret (pe_tup (pa_cons (pe_op op_fdivZ (pv 0) (pv 2)) (pa_cons (pe_op op_fdivZ (pv 1) (pv 2)) pa_nil))))))), ?_⟩
    refine n_seq ?_
    refine ⟨_, rfl, n, rfl, _, rfl, _, _, rfl, ?_⟩
    rw [nat_abs_if]
    dsimp only
    refine n_seq ?_
    refine while_by (fun σ G => G = H ∧ ∃ a c : Nat, σ = [some (.int n), some (.int d), some (.int a), some (.int c)] ∧ Nat.gcd a c = Nat.gcd n.natAbs d.natAbs)
      (fun σ _ => match σ[3]? with
        | some (some (V.int m)) => m.toNat
        | _ => 0) ⟨rfl, n.natAbs, d.natAbs, ?_, rfl⟩ ?_ ?_
    · have : ((d.natAbs : Nat) : Int) = d := by omega
      rw [this]
      rfl
    · rintro σ G ⟨rfl, a, c, rfl, hg⟩
      refine ⟨_, rfl, rfl, _, rfl, ?_⟩
      refine ite2 (fun w => ?_) (fun w => ?_)
      · have hc : c ≠ 0 := by
          rintro rfl
          rw [decide_eq_true (by rfl : V.int ((0 : Nat) : Int) = V.int 0)] at w
          cases w
        refine ⟨_, rfl, _, rfl, .inl ⟨_, rfl, _, rfl, a, c, rfl, rfl, (by omega : (0 : Int) < (c : Int)), _, _, rfl, ?_⟩⟩
        refine ⟨⟨rfl, c, a % c, ?_, gcd_step hg⟩, ?_⟩
        · rw [Int.natCast_emod]
          rfl
        · show ((a : Int) % (c : Int)).toNat < (c : Int).toNat
          have := Nat.mod_lt a (show c > 0 by omega)
          rw [← Int.natCast_emod]
          omega
      · have hc : c = 0 := by
          by_cases hc : c = 0
          · exact hc
          · exact absurd (by
              rw [decide_eq_false fun z => hc (by
                have := V.int.inj z
                omega)]
              rfl) w
        subst hc
        have ha : a = Nat.gcd n.natAbs d.natAbs := gcd_end hg
        subst ha
        have hd0 : d ≠ 0 := by omega
        have hG : Nat.gcd n.natAbs d.natAbs ≤ d.natAbs := Nat.gcd_le_right _ (by omega)
        have hp := gcd_pos (n := n) hd0
        have hz : ∀ i : Int, CDivZ i ((Nat.gcd n.natAbs d.natAbs : Nat) : Int) := fun _ => ⟨by omega, by
          have : ((Nat.gcd n.natAbs d.natAbs : Nat) : Int).natAbs = Nat.gcd n.natAbs d.natAbs := by omega
          rw [this]
          exact log_lt (Nat.lt_of_le_of_lt hG hb) (by omega : b ≤ 9000) (by decide)⟩
        have fd : ∀ i : Int, i.fdiv ((Nat.gcd n.natAbs d.natAbs : Nat) : Int) = i / ((Nat.gcd n.natAbs d.natAbs : Nat) : Int) := fun i => Int.fdiv_eq_ediv_of_nonneg i (by omega)
        have e := low_eq n d hd0 1 (by rw [if_neg (by omega)])
        rw [Int.one_mul, Int.one_mul] at e
        exact s_retP (ep_tup (b := b) (ev_fdivZ (ev_var rfl) (ev_var rfl) (hz _)) (ev_fdivZ (ev_var rfl) (ev_var rfl) (hz _)) (by rw [fd]; exact e.1) (by rw [fd]; exact e.2) (bd_divInt hd0 hn hb)) fun z H1 e w => k z H1 e w
    · rintro σ G Q Q' hq ⟨x, h1, h2, k2, h3, h4⟩
      exact ⟨x, h1, h2, k2, h3, hq _ _ h4⟩
end
/-! ### data that is drawn -/
section
variable {K : PySem.W.Frag} {p : Addr} {σ : L2.St} {H H' : Hp} {te ta tb : TE} {v : V} {d : PyData} {ds : List PyData} {tt : TT}
def EvD (K : PySem.W.Frag) (p : Addr) (te : TE) (σ : L2.St) (H : Hp) (d : PyData) : Prop := EvP te σ H fun v H => Dq K p H v d
def EvDs (K : PySem.W.Frag) (p : Addr) (ta : TA) (σ : L2.St) (H : Hp) (ds : List PyData) : Prop := ∀ H1, Ex H H1 → ∀ Q : List V → Hp → Prop, (∀ vs H2, Ex H1 H2 → DqAll K p H2 vs ds → Q vs H2) → ta σ H1 Q
theorem ed_ev (h : Ev te σ H v) (hd : ∀ H, Dq K p H v d) : EvD K p te σ H d := fun H1 e Q k => h H1 e Q fun H2 e2 => k v H2 e2 (hd H2)
theorem ed_var {i : Nat} (h : σ[i]? = some (some v)) (hd : Dq K p H v d) : EvD K p (tVar i) σ H d := fun H1 e _ k => ⟨v, h, k v H1 (Ex.refl H1) (Dq.ex e _ _ hd)⟩
theorem ed_int {n : Int} : EvD K p (tC (.int n)) σ H (.int n) := ed_ev ev_c fun _ => .int n
theorem ed_neg {n : Int} : EvD K p (tUn (rU fun i => .int (-i)) (tC (.int n))) σ H (.int (-n)) := ed_ev (ev_neg ev_c) fun _ => .int _
theorem ed_bool {b : Bool} : EvD K p (tC (.bl b)) σ H (.bool b) := ed_ev ev_c fun _ => .bl b
theorem ed_none : EvD K p (tC .non) σ H .none := ed_ev ev_c fun _ => .non
theorem ed_str {x : Str} : EvD K p (tC (.str x)) σ H (.str x) := ed_ev ev_c fun _ => .str x
theorem ed_fr {b : Nat} {q : Rat} (h : EvP te σ H (Fr K b q)) : EvD K p te σ H (frd q) := fun H1 e Q k => h H1 e Q fun v H2 e2 f => k v H2 e2 f.dq
theorem eds_nil : EvDs K p tNil σ H [] := fun H1 e Q k => k [] H1 (Ex.refl H1) .nil
theorem eds_cons {tr : TA} (h : EvD K p te σ H d) (hs : EvDs K p tr σ H ds) : EvDs K p (tCons te tr) σ H (d :: ds) := fun H1 e Q k =>
  h H1 e _ fun v H2 e2 q => hs H2 (e.trans e2) _ fun vs H3 e3 qs => k _ H3 (e2.trans e3) (.cons (Dq.ex e3 _ _ q) qs)
theorem ed_tup {ta : TA} (h : EvDs K p ta σ H ds) (hl : ds.length ≤ 1000) : EvD K p (tTup ta) σ H (.tuple ds) := fun H1 e Q k =>
  h H1 e _ fun vs H2 e2 qs => ⟨Nat.le_of_lt (small1000 (by rw [qs.len]; exact hl)), fun a fa => k _ _ (e2.trans (Ex.new fa)) (.tup (SqT.of upd_same) (DqAll.ex (Ex.new fa) _ _ qs))⟩
theorem ed_lst {ta : TA} {o : HO} (hp : H p = some o) (h : EvDs K p ta σ H ds) (hl : ds.length ≤ 1000) : EvD K p (tLstN ta) σ H (.list ds) := fun H1 e Q k =>
  h H1 e _ fun vs H2 e2 qs => ⟨Nat.le_of_lt (small1000 (by rw [qs.len]; exact hl)), fun a fa fm => k _ _ (e2.trans (Ex.new fa)) (.lst (ne_of_none (e2 _ _ (e _ _ hp)) fa).symm fm upd_same (DqAll.ex (Ex.new fa) _ _ qs))⟩
end
def tI (n : Int) : TE := tC (.int n)
def tN (n : Int) : TE := tUn (rU fun i => .int (-i)) (tC (.int n))
def tP (a b : TE) : TE := tTup (tCons a (tCons b tNil))
section
variable {K : PySem.W.Frag} {p : Addr} {σ : L2.St} {H : Hp} {a b : TE} {d e : PyData} {v : V} {q r : Rat}
theorem ed_I {n : Int} : EvD K p (tI n) σ H (.int n) := ed_int
theorem ed_N {n : Int} : EvD K p (tN n) σ H (.int (-n)) := ed_neg
theorem ed_P (h : EvD K p a σ H d) (g : EvD K p b σ H e) : EvD K p (tP a b) σ H (.tuple [d, e]) := ed_tup (eds_cons h (eds_cons g eds_nil)) (by show 2 ≤ 1000; decide)
def LstD (K : PySem.W.Frag) (p : Addr) (ds : List PyData) (v : V) (H : Hp) : Prop := ∃ (l : Addr) (vs : List V), v = .ref l ∧ l ≠ p ∧ l ≠ sysModules ∧ H l = some (.lst vs) ∧ DqAll K p H vs ds
def LstD0 (K : PySem.W.Frag) (p : Addr) (ds : List PyData) (v : V) (H : Hp) : Prop := ∃ (l : Addr) (vs : List V), v = .ref l ∧ l ≠ p ∧ H l = some (.lst vs) ∧ DqAll K p H vs ds
theorem LstD.to0 {ds : List PyData} (h : LstD K p ds v H) : LstD0 K p ds v H := by
  obtain ⟨l, vs, rfl, n, m, h, q⟩ := h
  exact ⟨l, vs, rfl, n, h, q⟩
theorem el_lst {tm : TA} {ds : List PyData} {o : HO} (hh : H p = some o) (hm : EvDs K p tm σ H ds) (hl : ds.length ≤ 900) : EvP (tLstN tm) σ H (LstD K p ds) := fun H1 e Q k =>
  hm H1 e _ fun vs H2 e2 qs => ⟨Nat.le_of_lt (small1000 (by rw [qs.len]; omega)), fun l fl fm => k _ _ (e2.trans (Ex.new fl)) ⟨l, vs, rfl, (ne_of_none (e2 _ _ (e _ _ hh)) fl).symm, fm, upd_same, DqAll.ex (Ex.new fl) _ _ qs⟩⟩
end
/-! ### the law's own weights -/
def strS (x : Str) : Bool := decide (x = "end" ∨ x = "all" ∨ x = "step")
mutual
/-- no list in it, small ints, the three names -/
def noL : PyData → Bool
  | .list _ => false
  | .tuple xs => noLA xs
  | .dict _ => false
  | .int i => decide (i.natAbs < 2 ^ 64)
  | .str x => strS x
  | _ => true
def noLA : List PyData → Bool
  | [] => true
  | x :: xs => noL x && noLA xs
end
section
variable {K : PySem.W.Frag} {p p' q : Addr} {H H' : Hp}
mutual
/-- without lists: nothing that happens to a list touches it -/
theorem Dq.nl {xs : List V} (hp : H q = some (.lst xs)) (e : ExB q H H') : ∀ (d : PyData) (v : V), noL d = true → Dq K p H v d → Dq K p' H' v d
  | _, _, _, .non => .non
  | _, _, _, .bl b => .bl b
  | _, _, _, .int i => .int i
  | _, _, _, .str x => .str x
  | _, _, s, .tup h hs => .tup (tup_lst hp e h) (DqAll.nl hp e _ _ (by simpa [noL] using s) hs)
theorem DqAll.nl {xs : List V} (hp : H q = some (.lst xs)) (e : ExB q H H') : ∀ (ds : List PyData) (vs : List V), noLA ds = true → DqAll K p H vs ds → DqAll K p' H' vs ds
  | _, _, _, .nil => .nil
  | _, _, s, .cons h hs => by
    simp only [noLA, Bool.and_eq_true] at s
    exact .cons (Dq.nl hp e _ _ s.1 h) (DqAll.nl hp e _ _ s.2 hs)
end
end
def dW0 : List PyData := [.tuple [.int 1, .int 4], .tuple [.int 1, .int 6], .tuple [.int 1, .int 5], .tuple [.int 3, .int 10]]
def dW1 : List PyData := [.tuple [.int 1, .int 2], .tuple [.int 1, .int 4], .tuple [.int 1, .int 1], .tuple [.int 1, .int 3], .tuple [.int 2, .int 1], .tuple [.int 3, .int 2]]
def goodW (d : PyData) : Bool := posB d && noL d
theorem goodW0 : ∀ d ∈ dW0, goodW d = true := by decide +kernel
theorem goodW1 : ∀ d ∈ dW1, goodW d = true := by decide +kernel
theorem noLA_app : ∀ (xs ys : List PyData), noLA (xs ++ ys) = (noLA xs && noLA ys)
  | [], ys => by simp [noLA]
  | x :: xs, ys => by
    rw [List.cons_append]
    simp only [noLA]
    rw [noLA_app xs ys, Bool.and_assoc]
def tW (n m : Int) : TE := tTup (tCons (tC (.int n)) (tCons (tC (.int m)) tNil))
theorem ed_W {K : PySem.W.Frag} {p : Addr} {σ : L2.St} {H : Hp} {n m : Int} : EvD K p (tW n m) σ H (.tuple [.int n, .int m]) := ed_P ed_I ed_I
theorem mW0 {K : PySem.W.Frag} {p : Addr} {σ : L2.St} {H : Hp} : EvDs K p (tCons (tW 1 4) (tCons (tW 1 6) (tCons (tW 1 5) (tCons (tW 3 10) tNil)))) σ H dW0 := eds_cons ed_W (eds_cons ed_W (eds_cons ed_W (eds_cons ed_W eds_nil)))
theorem mW1 {K : PySem.W.Frag} {p : Addr} {σ : L2.St} {H : Hp} : EvDs K p (tCons (tW 1 2) (tCons (tW 1 4) (tCons (tW 1 1) (tCons (tW 1 3) (tCons (tW 2 1) (tCons (tW 3 2) tNil)))))) σ H dW1 := eds_cons ed_W (eds_cons ed_W (eds_cons ed_W (eds_cons ed_W (eds_cons ed_W (eds_cons ed_W eds_nil)))))
def spWts (K : PySem.W.Frag) : Sp := fun vs H Q _ => ∃ (p a : Addr) (w : Int) (N : Nat), vs = [.ref p, .int w] ∧ Pen H p a N ∧ N ≤ 90000 ∧ ∀ l zs ds H', ExB p H H' → Pen H' p a (N + 4) → H' l = some (.lst zs) → l ≠ p → l ≠ a → DqAll K p H' zs ds → (∀ d ∈ ds, goodW d = true) → ds.length ≤ 3 → Q (.ref l) H'
section
variable {P : Program} {w : World} {K : PySem.W.Frag} {mg : Str → Option Value} {base : Heap}
theorem ok__law_weights (T : Txt K mg) : FnOk P w K mg base CX0 4 T.d__law_weights.a T.d__law_weights.fd ["_law_pen", "_law_way"] (spWts K) := by
  refine T.d__law_weights.F.ok sc__law_weights (fun vs H Q E h => ?_) (fun cdv A outer s H vs Q E hr h => ?_)
  · obtain ⟨p, a, w, N, rfl, _⟩ := h
    rfl
  · obtain ⟨p, a, w, N, rfl, hp, hN, k⟩ := h
    refine ⟨_, (pss_cons (ps_set (i := 2) sc__law_weights.nd rfl (Or.inl rfl) (pe_call (ok__law_one_of T) (hr.mono (by decide)) (by rfl) T.d__law_one_of.g T.d__law_one_of.F.kp T.d__law_one_of.b .nil pass0 (pa_cons (pv 0) (pa_cons (pe_lstN (pa_cons pe_int (pa_cons pe_int (pa_cons pe_int (pa_cons pe_int (pa_cons pe_int (pa_cons pe_int (pa_cons pe_int pa_nil)))))))) pa_nil))))
      (pss_cons (ps_if (pt_cmpR op_eq (pv 1) pe_int (nomark _)) (pss_one (ps_ret (pe_lc (own := [("_law_turn", 3)]) (g := gName 3) (tt := tYes) rfl sc__law_weights.nd (pi_range1 (by rfl) T.n_range (pa_cons (pv 2) pa_nil)) (blkOk_by (own := [("_law_turn", 3)]) (N := n__law_weights) (sc := defScope s__law_weights) (by decide +kernel)) (fun _ _ _ _ _ => pg_name (i := 3) sc__law_weights.nd rfl (Or.inl rfl)) (fun _ _ _ _ _ => pts_nil) (fun _ _ _ _ _ => (pe_call (ok__law_one_of T) (hr.mono (by decide)) (by rfl) T.d__law_one_of.g T.d__law_one_of.F.kp T.d__law_one_of.b .nil pass0 (pa_cons (pv 0) (pa_cons (pe_lstN (pa_cons (pe_tup (pa_cons pe_int (pa_cons pe_int pa_nil))) (pa_cons (pe_tup (pa_cons pe_int (pa_cons pe_int pa_nil))) (pa_cons (pe_tup (pa_cons pe_int (pa_cons pe_int pa_nil))) (pa_cons (pe_tup (pa_cons pe_int (pa_cons pe_int pa_nil))) pa_nil))))) pa_nil))))))) pss_nil)
      (pss_one (ps_ret (pe_lc (own := [("_law_turn", 3)]) (g := gName 3) (tt := tYes) rfl sc__law_weights.nd (pi_range1 (by rfl) T.n_range (pa_cons (pv 2) pa_nil)) (blkOk_by (own := [("_law_turn", 3)]) (N := n__law_weights) (sc := defScope s__law_weights) (by decide +kernel)) (fun _ _ _ _ _ => pg_name (i := 3) sc__law_weights.nd rfl (Or.inl rfl)) (fun _ _ _ _ _ => pts_nil) (fun _ _ _ _ _ => (pe_call (ok__law_one_of T) (hr.mono (by decide)) (by rfl) T.d__law_one_of.g T.d__law_one_of.F.kp T.d__law_one_of.b .nil pass0 (pa_cons (pv 0) (pa_cons (pe_lstN (pa_cons (pe_tup (pa_cons pe_int (pa_cons pe_int pa_nil))) (pa_cons (pe_tup (pa_cons pe_int (pa_cons pe_int pa_nil))) (pa_cons (pe_tup (pa_cons pe_int (pa_cons pe_int pa_nil))) (pa_cons (pe_tup (pa_cons pe_int (pa_cons pe_int pa_nil))) (pa_cons (pe_tup (pa_cons pe_int (pa_cons pe_int pa_nil))) (pa_cons (pe_tup (pa_cons pe_int (pa_cons pe_int pa_nil))) pa_nil))))))) pa_nil))))))))), ?_⟩
    refine n_seq ?_
    refine ⟨.ref p, rfl, by show 7 ≤ sizeLine; decide, fun l fl _ => ?_⟩
    obtain ⟨x0, hx0⟩ := hp.hasP
    have nlp : l ≠ p := (ne_of_none hx0 fl).symm
    refine ⟨p, a, l, _, N, rfl, hp.ex (Ex.new fl), upd_same, nlp, by show 0 < 7; decide, by show 7 < 1073741824; decide, by omega, fun x H1 hx eb1 hp1 => ?_⟩
    have EB : ExB p H H1 := (Ex.b (Ex.new fl)).trans eb1
    obtain ⟨m, rfl, m0, m3⟩ : ∃ m : Int, x = .int m ∧ 0 ≤ m ∧ m ≤ 3 := by
      simp only [List.mem_cons, List.not_mem_nil, or_false] at hx
      rcases hx with rfl | rfl | rfl | rfl | rfl | rfl | rfl <;> exact ⟨_, rfl, by decide, by decide⟩
    dsimp only
    refine n_seq ?_
    refine ⟨_, rfl, rfl, _, rfl, ite2 (fun c => ?_) (fun c => ?_)⟩
    · dsimp only
      refine ⟨.int m, rfl, m, rfl, by omega, by omega, fun D nD => ?_⟩
      obtain ⟨x1, hx1⟩ := hp1.hasP
      have nDp : D ≠ p := (ne_of_none hx1 nD).symm
      have nDa : D ≠ a := by
        obtain ⟨xs, hx⟩ := hp1.hasC
        exact (ne_of_none hx nD).symm
      refine lc_range (lo := 0) (n := m.toNat) (fun j G => Pen G p a (N + 1 + j) ∧ ExB p H1 G ∧ ∃ zs ds, G D = some (.lst zs) ∧ zs.length = j ∧ DqAll K p G zs ds ∧ (∀ d ∈ ds, goodW d = true) ∧ noLA ds = true) ⟨hp1.ex (Ex.new nD), Ex.b (Ex.new nD), [], [], upd_same, rfl, .nil, fun _ z => (nomatch z), rfl⟩ ?_ ?_
      · rintro j G hj ⟨hpG, ebG, zs, ds, hz, hzl, qs, gs, ss⟩
        refine ⟨rfl, ?_⟩
        refine yes_of ?_
        rw [if_pos rfl]
        obtain ⟨xg, hxg⟩ := hpG.hasP
        refine ⟨.ref p, rfl, ?_⟩
        dsimp only
        refine (show tLstN (tCons (tW 1 4) (tCons (tW 1 6) (tCons (tW 1 5) (tCons (tW 3 10) tNil)))) _ G _ from ?_)
        refine mW0 (K := K) (p := p) G (Ex.refl _) _ fun vs G1 e1 q1 => ?_
        refine ⟨by rw [q1.len]; show 4 ≤ sizeLine; decide, fun l2 f2 _ => ?_⟩
        have x2 := Ex.new (o := .lst vs) f2
        have n2 : l2 ≠ p := (ne_of_none (e1 _ _ hxg) f2).symm
        have n2D : D ≠ l2 := ne_of_none (e1 _ _ hz) f2
        refine ⟨p, a, l2, vs, _, rfl, hpG.ex (e1.trans x2), upd_same, n2, by rw [q1.len]; decide, by rw [q1.len]; decide, by omega, fun y G3 hy eb3 hp3 => ?_⟩
        obtain ⟨d, hd, qy⟩ := q1.mem y hy
        have hxp : (upd G1 l2 (.lst vs)) p = some (.lst xg) := x2 _ _ (e1 _ _ hxg)
        have g := goodW0 d hd
        have gl : noL d = true := by
          unfold goodW at g
          simp only [Bool.and_eq_true] at g
          exact g.2
        have qy3 : Dq K p G3 y d := Dq.nl hxp eb3 _ _ gl (Dq.ex x2 _ _ qy)
        have qs3 : DqAll K p G3 zs ds := DqAll.nl hxp eb3 _ _ ss (DqAll.ex (e1.trans x2) _ _ qs)
        have hz3 : G3 D = some (.lst zs) := eb3 _ _ nDp ((e1.trans x2) _ _ hz)
        have up : ExB D G3 (upd G3 D (.lst (zs ++ [y]))) := ExB.upd (ExB.refl D G3)
        refine ⟨zs, hz3, small1000 (by omega), (hp3.upd nDp nDa).mono (by omega), fun b o nb hb => ?_, zs ++ [y], ds ++ [d], upd_same, by rw [List.length_append, hzl]; rfl, ?_, ?_, ?_⟩
        · rw [upd_ne (ne_of_none hb nD)]
          exact eb3 _ _ nb ((e1.trans x2) _ _ (ebG _ _ nb hb))
        · exact (DqAll.nl hz3 up _ _ ss qs3).append (.cons (Dq.nl hz3 up _ _ gl qy3) .nil)
        · intro d' hd'
          rcases List.mem_append.mp hd' with hd' | hd'
          · exact gs d' hd'
          · rw [List.mem_singleton] at hd'
            subst hd'
            exact g
        · rw [noLA_app, ss]
          simp [noLA, gl]
      · rintro G ⟨hpG, ebG, zs, ds, hz, hzl, qs, gs, ss⟩
        exact k D zs ds G (EB.trans ebG) (hpG.mono (by omega)) hz nDp nDa qs gs (by rw [← qs.len, hzl]; omega)
    · refine n_next ?_
      dsimp only
      refine ⟨.int m, rfl, m, rfl, by omega, by omega, fun D nD => ?_⟩
      obtain ⟨x1, hx1⟩ := hp1.hasP
      have nDp : D ≠ p := (ne_of_none hx1 nD).symm
      have nDa : D ≠ a := by
        obtain ⟨xs, hx⟩ := hp1.hasC
        exact (ne_of_none hx nD).symm
      refine lc_range (lo := 0) (n := m.toNat) (fun j G => Pen G p a (N + 1 + j) ∧ ExB p H1 G ∧ ∃ zs ds, G D = some (.lst zs) ∧ zs.length = j ∧ DqAll K p G zs ds ∧ (∀ d ∈ ds, goodW d = true) ∧ noLA ds = true) ⟨hp1.ex (Ex.new nD), Ex.b (Ex.new nD), [], [], upd_same, rfl, .nil, fun _ z => (nomatch z), rfl⟩ ?_ ?_
      · rintro j G hj ⟨hpG, ebG, zs, ds, hz, hzl, qs, gs, ss⟩
        refine ⟨rfl, ?_⟩
        refine yes_of ?_
        rw [if_pos rfl]
        obtain ⟨xg, hxg⟩ := hpG.hasP
        refine ⟨.ref p, rfl, ?_⟩
        dsimp only
        refine (show tLstN (tCons (tW 1 2) (tCons (tW 1 4) (tCons (tW 1 1) (tCons (tW 1 3) (tCons (tW 2 1) (tCons (tW 3 2) tNil)))))) _ G _ from ?_)
        refine mW1 (K := K) (p := p) G (Ex.refl _) _ fun vs G1 e1 q1 => ?_
        refine ⟨by rw [q1.len]; show 6 ≤ sizeLine; decide, fun l2 f2 _ => ?_⟩
        have x2 := Ex.new (o := .lst vs) f2
        have n2 : l2 ≠ p := (ne_of_none (e1 _ _ hxg) f2).symm
        have n2D : D ≠ l2 := ne_of_none (e1 _ _ hz) f2
        refine ⟨p, a, l2, vs, _, rfl, hpG.ex (e1.trans x2), upd_same, n2, by rw [q1.len]; decide, by rw [q1.len]; decide, by omega, fun y G3 hy eb3 hp3 => ?_⟩
        obtain ⟨d, hd, qy⟩ := q1.mem y hy
        have hxp : (upd G1 l2 (.lst vs)) p = some (.lst xg) := x2 _ _ (e1 _ _ hxg)
        have g := goodW1 d hd
        have gl : noL d = true := by
          unfold goodW at g
          simp only [Bool.and_eq_true] at g
          exact g.2
        have qy3 : Dq K p G3 y d := Dq.nl hxp eb3 _ _ gl (Dq.ex x2 _ _ qy)
        have qs3 : DqAll K p G3 zs ds := DqAll.nl hxp eb3 _ _ ss (DqAll.ex (e1.trans x2) _ _ qs)
        have hz3 : G3 D = some (.lst zs) := eb3 _ _ nDp ((e1.trans x2) _ _ hz)
        have up : ExB D G3 (upd G3 D (.lst (zs ++ [y]))) := ExB.upd (ExB.refl D G3)
        refine ⟨zs, hz3, small1000 (by omega), (hp3.upd nDp nDa).mono (by omega), fun b o nb hb => ?_, zs ++ [y], ds ++ [d], upd_same, by rw [List.length_append, hzl]; rfl, ?_, ?_, ?_⟩
        · rw [upd_ne (ne_of_none hb nD)]
          exact eb3 _ _ nb ((e1.trans x2) _ _ (ebG _ _ nb hb))
        · exact (DqAll.nl hz3 up _ _ ss qs3).append (.cons (Dq.nl hz3 up _ _ gl qy3) .nil)
        · intro d' hd'
          rcases List.mem_append.mp hd' with hd' | hd'
          · exact gs d' hd'
          · rw [List.mem_singleton] at hd'
            subst hd'
            exact g
        · rw [noLA_app, ss]
          simp [noLA, gl]
      · rintro G ⟨hpG, ebG, zs, ds, hz, hzl, qs, gs, ss⟩
        exact k D zs ds G (EB.trans ebG) (hpG.mono (by omega)) hz nDp nDa qs gs (by rw [← qs.len, hzl]; omega)
end
/-! ### the law's own pays -/
def spPay (K : PySem.W.Frag) : Sp := fun vs H Q _ => ∃ (p a : Addr) (w : Int) (N : Nat), vs = [.ref p, .int w] ∧ 0 ≤ w ∧ w < 4 ∧ Pen H p a N ∧ N ≤ 90000 ∧ ∀ z q H', ExB p H H' → Pen H' p a (N + 4) → Fr K 4 q z H' → Q z H'
section
variable {P : Program} {w : World} {K : PySem.W.Frag} {mg : Str → Option Value} {base : Heap}
theorem ok__law_pay (T : Txt K mg) : FnOk P w K mg base CX0 4 T.d__law_pay.a T.d__law_pay.fd ["_law_pen", "_law_way"] (spPay K) := by
  refine T.d__law_pay.F.ok sc__law_pay (fun vs H Q E h => ?_) (fun cdv A outer s H vs Q E hr h => ?_)
  · obtain ⟨p, a, w, N, rfl, _⟩ := h
    rfl
  · obtain ⟨p, a, w, N, rfl, w0, w4, hp, hN, k⟩ := h
    refine ⟨_, (pss_cons (ps_par (i := 2) (j := 3) (by rfl) sc__law_pay.nd rfl rfl (by decide) rfl rfl (pa_cons (pe_op op_add pe_int (pe_call (ok__law_take T) (hr.mono (by decide)) (by rfl) T.d__law_take.g T.d__law_take.F.kp T.d__law_take.b .nil pass0 (pa_cons (pv 0) (pa_cons pe_int pa_nil)))) (pa_cons (pe_call (ok__law_one_of T) (hr.mono (by decide)) (by rfl) T.d__law_one_of.g T.d__law_one_of.F.kp T.d__law_one_of.b .nil pass0 (pa_cons (pv 0) (pa_cons (pe_lstN (pa_cons pe_int (pa_cons pe_int (pa_cons pe_int (pa_cons pe_int pa_nil))))) pa_nil))) pa_nil)) (by rfl))
      (pss_cons (ps_set (i := 4) sc__law_pay.nd rfl (Or.inl rfl) (pe_ix ix_list (pe_lstN (pa_cons (pe_call (ok__law_one_of T) (hr.mono (by decide)) (by rfl) T.d__law_one_of.g T.d__law_one_of.F.kp T.d__law_one_of.b .nil pass0 (pa_cons (pv 0) (pa_cons (pe_lstN (pa_cons pe_int (pa_cons pe_int (pa_cons pe_int (pa_cons (pe_un un_neg pe_int) (pa_cons pe_int pa_nil)))))) pa_nil))) (pa_cons pe_int (pa_cons (pe_un un_neg pe_int) (pa_cons (pe_call (ok__law_one_of T) (hr.mono (by decide)) (by rfl) T.d__law_one_of.g T.d__law_one_of.F.kp T.d__law_one_of.b .nil pass0 (pa_cons (pv 0) (pa_cons (pe_lstN (pa_cons pe_int (pa_cons pe_int (pa_cons (pe_un un_neg pe_int) (pa_cons pe_int pa_nil))))) pa_nil))) pa_nil))))) (pv 1) (fun _ _ => rfl)))
      (pss_one (ps_ret (pe_call (ok__law_fr T) (hr.mono (by decide)) (by rfl) T.d__law_fr.g T.d__law_fr.F.kp T.d__law_fr.b .nil pass0 (pa_cons (pe_op op_mulW (pv 4) (pv 2)) (pa_cons (pv 3) pa_nil))))))), ?_⟩
    refine n_seq ?_
    refine ⟨.ref p, rfl, p, a, 6, N, rfl, hp, by decide, by decide, by omega, fun r H1 r0 r6 eb1 hp1 => ⟨1, r, rfl, rfl, ?_⟩⟩
    obtain ⟨x1, hx1⟩ := hp1.hasP
    refine ⟨.ref p, rfl, by show 4 ≤ sizeLine; decide, fun l fl _ => ?_⟩
    have e1 := Ex.new (o := .lst [.int 1, .int 1, .int 2, .int 3]) fl
    refine ⟨p, a, l, _, _, rfl, hp1.ex e1, upd_same, (ne_of_none hx1 fl).symm, by show 0 < 4; decide, by show 4 < 1073741824; decide, by omega, fun x H2 hx eb2 hp2 => ?_⟩
    obtain ⟨m, rfl, m0, m3⟩ : ∃ m : Int, x = .int m ∧ 1 ≤ m ∧ m ≤ 3 := by
      simp only [List.mem_cons, List.not_mem_nil, or_false] at hx
      rcases hx with rfl | rfl | rfl | rfl <;> exact ⟨_, rfl, by decide, by decide⟩
    obtain ⟨x2, hx2⟩ := hp2.hasP
    refine ⟨_, _, rfl, ?_⟩
    dsimp only
    refine n_seq ?_
    refine ⟨.ref p, rfl, 1, rfl, by show 5 ≤ sizeLine; decide, fun l3 f3 _ => ?_⟩
    have e3 := Ex.new (o := .lst [.int 1, .int 1, .int 1, .int (-1), .int 0]) f3
    refine ⟨p, a, l3, _, _, rfl, hp2.ex e3, upd_same, (ne_of_none hx2 f3).symm, by show 0 < 5; decide, by show 5 < 1073741824; decide, by omega, fun y H3 hy eb3 hp3 => ?_⟩
    obtain ⟨s0, rfl, s01, s02⟩ : ∃ s : Int, y = .int s ∧ -1 ≤ s ∧ s ≤ 1 := by
      simp only [List.mem_cons, List.not_mem_nil, or_false] at hy
      rcases hy with rfl | rfl | rfl | rfl | rfl <;> exact ⟨_, rfl, by decide, by decide⟩
    obtain ⟨x3, hx3⟩ := hp3.hasP
    refine ⟨1, rfl, ?_⟩
    refine ⟨.ref p, rfl, 1, rfl, by show 4 ≤ sizeLine; decide, fun l4 f4 _ => ?_⟩
    have e4 := Ex.new (o := .lst [.int 1, .int 1, .int (-1), .int 0]) f4
    refine ⟨p, a, l4, _, _, rfl, hp3.ex e4, upd_same, (ne_of_none hx3 f4).symm, by show 0 < 4; decide, by show 4 < 1073741824; decide, by omega, fun u H4 hu eb4 hp4 => ?_⟩
    obtain ⟨s3, rfl, s31, s32⟩ : ∃ s : Int, u = .int s ∧ -1 ≤ s ∧ s ≤ 1 := by
      simp only [List.mem_cons, List.not_mem_nil, or_false] at hu
      rcases hu with rfl | rfl | rfl | rfl <;> exact ⟨_, rfl, by decide, by decide⟩
    refine ⟨by show 4 ≤ sizeLine; decide, fun l5 f5 _ => ?_⟩
    have e5 := Ex.new (o := .lst [.int s0, .int 1, .int (-1), .int s3]) f5
    obtain ⟨s, hs, sl, su⟩ : ∃ s : Int, atI [V.int s0, .int 1, .int (-1), .int s3] w = some (.int s) ∧ -1 ≤ s ∧ s ≤ 1 := by
      obtain rfl | rfl | rfl | rfl : w = 0 ∨ w = 1 ∨ w = 2 ∨ w = 3 := by omega
      · exact ⟨s0, rfl, s01, s02⟩
      · exact ⟨1, rfl, by decide, by decide⟩
      · exact ⟨-1, rfl, by decide, by decide⟩
      · exact ⟨s3, rfl, s31, s32⟩
    refine ⟨_, rfl, l5, _, w, _, rfl, rfl, SqL.of upd_same, hs, ?_⟩
    dsimp only
    have b1 : (s * (1 + r)).natAbs < 2 ^ 4 := by
      have h1 : (s * (1 + r)).natAbs = s.natAbs * (1 + r).natAbs := Int.natAbs_mul ..
      have h2 : s.natAbs ≤ 1 := by omega
      have h3 : (1 + r).natAbs ≤ 6 := by omega
      have h4 : s.natAbs * (1 + r).natAbs ≤ 1 * 6 := Nat.mul_le_mul h2 h3
      omega
    refine ⟨_, rfl, _, rfl, s, 1 + r, rfl, rfl, mulW (a := 64) (b := 64) (by omega) (by omega) (by decide), _, rfl, s * (1 + r), m, 4, rfl, by omega, b1, by omega, by decide, fun z H6 e6 f => ?_⟩
    have EB : ExB p H H6 := (((((eb1.trans ((Ex.b e1).trans eb2)).trans ((Ex.b e3).trans eb3)).trans ((Ex.b e4).trans eb4)).trans (Ex.b e5))).trans (Ex.b e6)
    exact k z _ H6 EB ((hp4.ex (e5.trans e6)).mono (by omega)) f
end
/-! ### the law's own terms -/
mutual
/-- a drawn term: levels, data, steps, parts, size -/
inductive Tm : Nat → PyData → Nat → Nat → Nat → Prop
  | e {k : Nat} : Tm (k + 1) (.tuple [.str "end"]) 0 1 1
  | al {k S N : Nat} {ts : List PyData} {ns : List Nat} : TmA k ts S N ns → 2 ≤ ts.length → ts.length ≤ 3 → Tm (k + 1) (.tuple [.str "all", .tuple ts]) S (N + 1) (prodN ns)
  | st {k S N : Nat} {q : PyData} {os : List PyData} {ns : List Nat} : frB q = true → os.length ≤ 3 → (∀ o ∈ os, outB o = true) → TmA k (os.map sndD) S N ns → Tm (k + 1) (.tuple [.str "step", q, .tuple os]) (S + 1) (N + 1) (1 + ns.sum)
inductive TmA : Nat → List PyData → Nat → Nat → List Nat → Prop
  | nil {k : Nat} : TmA k [] 0 0 []
  | cons {k S N S' N' n : Nat} {d : PyData} {ds : List PyData} {ns : List Nat} : Tm k d S N n → TmA k ds S' N' ns → TmA k (d :: ds) (S + S') (N + N') (n :: ns)
end
theorem TmA.snoc : ∀ {k S N S' N' n : Nat} {d : PyData} {ds : List PyData} {ns : List Nat}, TmA k ds S N ns → Tm k d S' N' n → TmA k (ds ++ [d]) (S + S') (N + N') (ns ++ [n])
  | _, _, _, S', N', _, _, _, _, .nil, h => by
    have := TmA.cons h .nil
    rwa [Nat.add_comm S' 0, Nat.add_comm N' 0] at this
  | _, _, _, _, _, _, _, _, _, .cons (S := a) (N := b) (S' := c) (N' := e) h hs, g => by
    have := TmA.cons h (hs.snoc g)
    rw [← Nat.add_assoc, ← Nat.add_assoc] at this
    exact this
theorem noLA_of : ∀ {ds : List PyData}, (∀ d ∈ ds, noL d = true) → noLA ds = true
  | [], _ => rfl
  | d :: ds, h => by
    simp only [noLA, Bool.and_eq_true]
    exact ⟨h d (by simp), noLA_of fun e he => h e (by simp [he])⟩
theorem ed_ixL {K : PySem.W.Frag} {p D : Addr} {σ : L2.St} {H : Hp} {zs : List V} {ds : List PyData} {i j : Nat} {dj : PyData} (hv : σ[i]? = some (some (.ref D))) (hz : H D = some (.lst zs)) (hA : DqAll K p H zs ds) (e : ds[j]? = some dj) : EvD K p (tOp (rIxL K) (tVar i) (tC (.int (j : Int)))) σ H dj := fun H1 e1 Q k => by
  obtain ⟨x, hx, q⟩ := hA.get e
  exact ⟨_, hv, D, zs, j, x, rfl, rfl, SqL.of (e1 _ _ hz), atI_nat hx, k x H1 (Ex.refl _) (Dq.ex e1 _ _ q)⟩
theorem sS : strS "step" = true := by decide +kernel
theorem noL_frd {q : Rat} {b : Nat} (h : Bd b q) (hb : b ≤ 64) : noL (frd q) = true := by
  have h1 := lt_pow_mono hb h.1
  have h2 := lt_pow_mono hb (bd_den h)
  simp only [frd, noL, noLA, decide_eq_true h1, decide_eq_true h2, Bool.and_self]
def cst : Nat → Nat
  | 0 => 0
  | k + 1 => 12 + 3 * cst k
def spTrm (K : PySem.W.Frag) (k : Nat) : Sp := fun vs H Q _ => ∃ (p a : Addr) (w : Int) (N : Nat), vs = [.ref p, .int w, .int (k : Nat)] ∧ 0 ≤ w ∧ w < 4 ∧ Pen H p a N ∧ N + cst k ≤ 90000 ∧
  ∀ v d S M n H', ExB p H H' → Pen H' p a (N + cst k) → Dq K p H' v d → noL d = true → Tm (k + 1) d S M n → Q v H'
section
variable {P : Program} {w : World} {K : PySem.W.Frag} {mg : Str → Option Value} {base : Heap}
theorem ok__law_term (T : Txt K mg) : ∀ k, FnOk P w K mg base CX0 (5 + k) T.d__law_term.a T.d__law_term.fd ["_law_pen", "_law_way", "_law_deep"] (spTrm K k) := by
  intro k
  induction k with
  | zero =>
    refine (T.d__law_term.F.ok (k := 4) sc__law_term (fun vs H Q E h => ?_) fun cdv A outer s H vs Q E hr h => ?_)
    · obtain ⟨p, a, w, N, rfl, _⟩ := h
      rfl
    · obtain ⟨p, a, w, N, rfl, w0, w4, hp, hN, kk⟩ := h
      have ih : FnOk P ‹World› K mg base CX0 4 T.d__law_term.a T.d__law_term.fd ["_law_pen", "_law_way", "_law_deep"] (fun _ _ _ _ => False) := ⟨fun _ _ _ _ z => z.elim, fun _ _ _ _ _ _ _ _ _ _ _ _ _ z => z.elim⟩
      refine ⟨_, (pss_cons (ps_if (PW.pt (pw_or (pt_cmpR op_eq (pv 2) pe_int (nomark _)) (pw_or1 (pt_cmpR op_eq (pe_call (ok__law_take T) (hr.mono (by omega)) (by rfl) T.d__law_take.g T.d__law_take.F.kp T.d__law_take.b .nil pass0 (pa_cons (pv 0) (pa_cons pe_int pa_nil))) pe_int (nomark _))))) (pss_one (ps_ret (pe_tup (pa_cons pe_str pa_nil)))) pss_nil)
      (pss_cons (ps_if (PW.pt (pw_and (pt_cmpR op_gt (pv 2) pe_int (nomark _)) (pw_and1 (pt_cmpR op_eq (pe_call (ok__law_take T) (hr.mono (by omega)) (by rfl) T.d__law_take.g T.d__law_take.F.kp T.d__law_take.b .nil pass0 (pa_cons (pv 0) (pa_cons pe_int pa_nil))) pe_int (nomark _))))) (pss_cons (ps_set (i := 3) sc__law_term.nd rfl (Or.inl rfl) (pe_op op_add pe_int (pe_callTy call_int1 (by rfl) T.n_int (by decide +kernel) (pa_cons (pe_cmpR op_eq (pe_call (ok__law_take T) (hr.mono (by omega)) (by rfl) T.d__law_take.g T.d__law_take.F.kp T.d__law_take.b .nil pass0 (pa_cons (pv 0) (pa_cons pe_int pa_nil))) pe_int (nomark _)) pa_nil))))
      (pss_one (ps_ret (pe_tup (pa_cons pe_str (pa_cons (pe_callTy call_tuple_of (by rfl) T.n_tuple (by decide +kernel) (pa_cons (pe_lc (own := [("_law_turn", 5)]) (g := gName 5) (tt := tYes) rfl sc__law_term.nd (pi_range1 (by rfl) T.n_range (pa_cons (pv 3) pa_nil)) (blkOk_by (own := [("_law_turn", 5)]) (N := n__law_term) (sc := defScope s__law_term) (by decide +kernel)) (fun _ _ _ _ _ => pg_name (i := 5) sc__law_term.nd rfl (Or.inl rfl)) (fun _ _ _ _ _ => pts_nil) (fun _ _ _ _ _ => (pe_call ih (hr.mono (by omega)) (by rfl) T.d__law_term.g T.d__law_term.F.kp T.d__law_term.b .nil pass0 (pa_cons (pv 0) (pa_cons (pv 1) (pa_cons (pe_op op_sub (pv 2) pe_int) pa_nil)))))) pa_nil)) pa_nil)))))) pss_nil)
      (pss_cons (ps_if (PW.pt (pw_and (pt_cmpR op_gt (pv 2) pe_int (nomark _)) (pw_and1 (pt_cmpR op_eq (pe_call (ok__law_take T) (hr.mono (by omega)) (by rfl) T.d__law_take.g T.d__law_take.F.kp T.d__law_take.b .nil pass0 (pa_cons (pv 0) (pa_cons pe_int pa_nil))) pe_int (nomark _))))) (pss_cons (ps_setLc (i := 4) (own := [("_law_turn", 5)]) (g := gName 5) (tt := tYes) rfl sc__law_term.nd rfl rfl (sw_true rfl rfl rfl (by decide +kernel)) (pi_range1 (by rfl) T.n_range (pa_cons pe_int pa_nil)) (blkOk_by (own := [("_law_turn", 5)]) (N := n__law_term) (sc := defScope s__law_term) (by decide +kernel)) (fun _ _ _ _ _ => pg_name (i := 5) sc__law_term.nd rfl (Or.inl rfl)) (fun _ _ _ _ _ => pts_nil) (fun _ _ _ _ _ => (pe_call ih (hr.mono (by omega)) (by rfl) T.d__law_term.g T.d__law_term.F.kp T.d__law_term.b .nil pass0 (pa_cons (pv 0) (pa_cons (pv 1) (pa_cons (pe_op op_sub (pv 2) pe_int) pa_nil))))))
      (pss_one (ps_ret (pe_tup (pa_cons pe_str (pa_cons (pe_tup (pa_cons pe_int (pa_cons pe_int pa_nil))) (pa_cons (pe_tup (pa_cons (pe_tup (pa_cons (pe_tup (pa_cons pe_int (pa_cons pe_int pa_nil))) (pa_cons (pe_ix ix_list (pv 4) pe_int (fun _ _ => rfl)) pa_nil))) (pa_cons (pe_tup (pa_cons (pe_tup (pa_cons pe_int (pa_cons pe_int pa_nil))) (pa_cons (pe_ix ix_list (pv 4) pe_int (fun _ _ => rfl)) pa_nil))) pa_nil))) pa_nil))))))) pss_nil)
      (pss_cons (ps_setLc (i := 4) (own := [("_law_weight", 6)]) (g := gName 6) (tt := tYes) rfl sc__law_term.nd rfl rfl (sw_true rfl rfl rfl (by decide +kernel)) (pi_list (pe_call (ok__law_weights T) (hr.mono (by omega)) (by rfl) T.d__law_weights.g T.d__law_weights.F.kp T.d__law_weights.b .nil pass0 (pa_cons (pv 0) (pa_cons (pv 1) pa_nil)))) (blkOk_by (own := [("_law_weight", 6)]) (N := n__law_term) (sc := defScope s__law_term) (by decide +kernel)) (fun _ _ _ _ _ => pg_name (i := 6) sc__law_term.nd rfl (Or.inl rfl)) (fun _ _ _ _ _ => pts_nil) (fun _ _ _ _ _ => (pe_tup (pa_cons (pv 6) (pa_cons (pe_call ih (hr.mono (by omega)) (by rfl) T.d__law_term.g T.d__law_term.F.kp T.d__law_term.b .nil pass0 (pa_cons (pv 0) (pa_cons (pv 1) (pa_cons (pe_op op_sub (pv 2) pe_int) pa_nil)))) pa_nil)))))
      (pss_one (ps_ret (pe_tup (pa_cons pe_str (pa_cons (pe_call (ok__law_pay T) (hr.mono (by omega)) (by rfl) T.d__law_pay.g T.d__law_pay.F.kp T.d__law_pay.b .nil pass0 (pa_cons (pv 0) (pa_cons (pv 1) pa_nil))) (pa_cons (pe_callTy call_tuple_of (by rfl) T.n_tuple (by decide +kernel) (pa_cons (pv 4) pa_nil)) pa_nil)))))))))), ?_⟩
      refine s_if (b := true) (et_is (et_or (a := true) (b := true) (et_is (et_test (ev_op (ev_var rfl) ev_c (rv_eq rfl))) (decide_eq_true rfl)) fun z => nomatch z) rfl) (fun _ H1 e1 => ?_) fun z => nomatch z
      refine ⟨by show 1 ≤ sizeLine; decide, fun t ft => ?_⟩
      have x := e1.trans (Ex.new (o := .tup [.str "end"]) ft)
      exact kk (.ref t) _ 0 1 1 _ (Ex.b x) (hp.ex x) (.tup (SqT.of upd_same) (.cons (.str _) .nil)) (by decide +kernel) .e
  | succ k ih =>
    refine (T.d__law_term.F.ok (k := 5 + k) sc__law_term (fun vs H Q E h => ?_) fun cdv A outer s H vs Q E hr h => ?_)
    · obtain ⟨p, a, w, N, rfl, _⟩ := h
      rfl
    · obtain ⟨p, a, w, N, rfl, w0, w4, hp, hN, kk⟩ := h
      refine ⟨_, (pss_cons (ps_if (PW.pt (pw_or (pt_cmpR op_eq (pv 2) pe_int (nomark _)) (pw_or1 (pt_cmpR op_eq (pe_call (ok__law_take T) (hr.mono (by omega)) (by rfl) T.d__law_take.g T.d__law_take.F.kp T.d__law_take.b .nil pass0 (pa_cons (pv 0) (pa_cons pe_int pa_nil))) pe_int (nomark _))))) (pss_one (ps_ret (pe_tup (pa_cons pe_str pa_nil)))) pss_nil)
      (pss_cons (ps_if (PW.pt (pw_and (pt_cmpR op_gt (pv 2) pe_int (nomark _)) (pw_and1 (pt_cmpR op_eq (pe_call (ok__law_take T) (hr.mono (by omega)) (by rfl) T.d__law_take.g T.d__law_take.F.kp T.d__law_take.b .nil pass0 (pa_cons (pv 0) (pa_cons pe_int pa_nil))) pe_int (nomark _))))) (pss_cons (ps_set (i := 3) sc__law_term.nd rfl (Or.inl rfl) (pe_op op_add pe_int (pe_callTy call_int1 (by rfl) T.n_int (by decide +kernel) (pa_cons (pe_cmpR op_eq (pe_call (ok__law_take T) (hr.mono (by omega)) (by rfl) T.d__law_take.g T.d__law_take.F.kp T.d__law_take.b .nil pass0 (pa_cons (pv 0) (pa_cons pe_int pa_nil))) pe_int (nomark _)) pa_nil))))
      (pss_one (ps_ret (pe_tup (pa_cons pe_str (pa_cons (pe_callTy call_tuple_of (by rfl) T.n_tuple (by decide +kernel) (pa_cons (pe_lc (own := [("_law_turn", 5)]) (g := gName 5) (tt := tYes) rfl sc__law_term.nd (pi_range1 (by rfl) T.n_range (pa_cons (pv 3) pa_nil)) (blkOk_by (own := [("_law_turn", 5)]) (N := n__law_term) (sc := defScope s__law_term) (by decide +kernel)) (fun _ _ _ _ _ => pg_name (i := 5) sc__law_term.nd rfl (Or.inl rfl)) (fun _ _ _ _ _ => pts_nil) (fun _ _ _ _ _ => (pe_call ih (hr.mono (by omega)) (by rfl) T.d__law_term.g T.d__law_term.F.kp T.d__law_term.b .nil pass0 (pa_cons (pv 0) (pa_cons (pv 1) (pa_cons (pe_op op_sub (pv 2) pe_int) pa_nil)))))) pa_nil)) pa_nil)))))) pss_nil)
      (pss_cons (ps_if (PW.pt (pw_and (pt_cmpR op_gt (pv 2) pe_int (nomark _)) (pw_and1 (pt_cmpR op_eq (pe_call (ok__law_take T) (hr.mono (by omega)) (by rfl) T.d__law_take.g T.d__law_take.F.kp T.d__law_take.b .nil pass0 (pa_cons (pv 0) (pa_cons pe_int pa_nil))) pe_int (nomark _))))) (pss_cons (ps_setLc (i := 4) (own := [("_law_turn", 5)]) (g := gName 5) (tt := tYes) rfl sc__law_term.nd rfl rfl (sw_true rfl rfl rfl (by decide +kernel)) (pi_range1 (by rfl) T.n_range (pa_cons pe_int pa_nil)) (blkOk_by (own := [("_law_turn", 5)]) (N := n__law_term) (sc := defScope s__law_term) (by decide +kernel)) (fun _ _ _ _ _ => pg_name (i := 5) sc__law_term.nd rfl (Or.inl rfl)) (fun _ _ _ _ _ => pts_nil) (fun _ _ _ _ _ => (pe_call ih (hr.mono (by omega)) (by rfl) T.d__law_term.g T.d__law_term.F.kp T.d__law_term.b .nil pass0 (pa_cons (pv 0) (pa_cons (pv 1) (pa_cons (pe_op op_sub (pv 2) pe_int) pa_nil))))))
      (pss_one (ps_ret (pe_tup (pa_cons pe_str (pa_cons (pe_tup (pa_cons pe_int (pa_cons pe_int pa_nil))) (pa_cons (pe_tup (pa_cons (pe_tup (pa_cons (pe_tup (pa_cons pe_int (pa_cons pe_int pa_nil))) (pa_cons (pe_ix ix_list (pv 4) pe_int (fun _ _ => rfl)) pa_nil))) (pa_cons (pe_tup (pa_cons (pe_tup (pa_cons pe_int (pa_cons pe_int pa_nil))) (pa_cons (pe_ix ix_list (pv 4) pe_int (fun _ _ => rfl)) pa_nil))) pa_nil))) pa_nil))))))) pss_nil)
      (pss_cons (ps_setLc (i := 4) (own := [("_law_weight", 6)]) (g := gName 6) (tt := tYes) rfl sc__law_term.nd rfl rfl (sw_true rfl rfl rfl (by decide +kernel)) (pi_list (pe_call (ok__law_weights T) (hr.mono (by omega)) (by rfl) T.d__law_weights.g T.d__law_weights.F.kp T.d__law_weights.b .nil pass0 (pa_cons (pv 0) (pa_cons (pv 1) pa_nil)))) (blkOk_by (own := [("_law_weight", 6)]) (N := n__law_term) (sc := defScope s__law_term) (by decide +kernel)) (fun _ _ _ _ _ => pg_name (i := 6) sc__law_term.nd rfl (Or.inl rfl)) (fun _ _ _ _ _ => pts_nil) (fun _ _ _ _ _ => (pe_tup (pa_cons (pv 6) (pa_cons (pe_call ih (hr.mono (by omega)) (by rfl) T.d__law_term.g T.d__law_term.F.kp T.d__law_term.b .nil pass0 (pa_cons (pv 0) (pa_cons (pv 1) (pa_cons (pe_op op_sub (pv 2) pe_int) pa_nil)))) pa_nil)))))
      (pss_one (ps_ret (pe_tup (pa_cons pe_str (pa_cons (pe_call (ok__law_pay T) (hr.mono (by omega)) (by rfl) T.d__law_pay.g T.d__law_pay.F.kp T.d__law_pay.b .nil pass0 (pa_cons (pv 0) (pa_cons (pv 1) pa_nil))) (pa_cons (pe_callTy call_tuple_of (by rfl) T.n_tuple (by decide +kernel) (pa_cons (pv 4) pa_nil)) pa_nil)))))))))), ?_⟩
      have hne : decide (V.int ((k + 1 : Nat) : Int) = V.int 0) = false := decide_eq_false fun z => by
        have := V.int.inj z
        omega
      have ended : ∀ {G : Hp} {N' : Nat}, ExB p H G → Pen G p a N' → N' ≤ N + cst (k + 1) → ∀ t, G t = none → Q (.ref t) (upd G t (.tup [.str "end"])) := fun {G N'} eb hp' hN' t ft =>
        kk (.ref t) _ 0 1 1 _ (eb.trans (Ex.b (Ex.new ft))) ((hp'.ex (Ex.new ft)).mono hN') (.tup (SqT.of upd_same) (.cons (.str _) .nil)) (by decide +kernel) .e
      have hc : cst (k + 1) = 12 + 3 * cst k := rfl
      -- an end?
      refine s_join (fun σ G => σ = [some (.ref p), some (.int w), some (.int ((k + 1 : Nat) : Int)), none, none, none, none] ∧ ExB p H G ∧ Pen G p a (N + 1)) (fun NX hNX => ?_) ?_
      · refine ⟨_, rfl, rfl, _, rfl, ?_⟩
        rw [hne]
        refine iteF ?_
        refine ⟨.ref p, rfl, p, a, 7, N, rfl, hp, by decide, by decide, by omega, fun r H1 r0 r7 eb1 hp1 => ?_⟩
        refine ⟨rfl, _, rfl, ite2 (fun c => ?_) (fun c => ?_)⟩
        · exact ⟨by show 1 ≤ sizeLine; decide, fun t ft => ended eb1 hp1 (by omega) t ft⟩
        · exact n_next (hNX _ _ ⟨rfl, eb1, hp1⟩)
      rintro σ G1 ⟨rfl, eb1, hp1⟩
      -- members side by side?
      refine s_join (fun σ G => σ = [some (.ref p), some (.int w), some (.int ((k + 1 : Nat) : Int)), none, none, none, none] ∧ ExB p H G ∧ Pen G p a (N + 2)) (fun NX hNX => ?_) ?_
      · refine ⟨_, rfl, _, _, rfl, rfl, _, rfl, ite2 (fun c => ?_) (fun c => ?_)⟩
        · refine ⟨.ref p, rfl, p, a, 6, N + 1, rfl, hp1, by decide, by decide, by omega, fun r H2 r0 r6 eb2 hp2 => ⟨rfl, _, rfl, ite2 (fun c2 => ?_) (fun c2 => ?_)⟩⟩
          rotate_left
          · exact n_next (hNX _ _ ⟨rfl, eb1.trans eb2, hp2⟩)
          refine n_seq ?_
          refine ⟨.ref p, rfl, p, a, 3, N + 2, rfl, hp2, by decide, by decide, by omega, fun r3 H3 r30 r33 eb3 hp3 => ⟨rfl, .inr ⟨_, rfl, 2, _, rfl, rfl, ?_⟩⟩⟩
          obtain ⟨m, hm, m2, m3⟩ : ∃ m : Int, (2 + if decide (V.int r3 = V.int 0) = true then (1 : Int) else 0) = m ∧ 2 ≤ m ∧ m ≤ 3 := by
            by_cases h : decide (V.int r3 = V.int 0) = true
            · exact ⟨3, by rw [if_pos h]; rfl, by decide, by decide⟩
            · exact ⟨2, by rw [if_neg h]; rfl, by decide, by decide⟩
          refine n_name ?_
          dsimp only
          rw [hm]
          refine ⟨.int m, rfl, m, rfl, by omega, by omega, fun D nD => ?_⟩
          obtain ⟨xb, hxb⟩ := hp3.hasP
          have nDp : D ≠ p := (ne_of_none hxb nD).symm
          have nDa : D ≠ a := by
            obtain ⟨xs, hx⟩ := hp3.hasC
            exact (ne_of_none hx nD).symm
          refine lc_range (lo := 0) (n := m.toNat) (fun j G => Pen G p a (N + 3 + j * cst k) ∧ ExB p H3 G ∧ ∃ zs ds S M ns, G D = some (.lst zs) ∧ zs.length = j ∧ DqAll K p G zs ds ∧ noLA ds = true ∧ TmA (k + 1) ds S M ns) ⟨by rw [Nat.zero_mul]; exact hp3.ex (Ex.new nD), Ex.b (Ex.new nD), [], [], 0, 0, [], upd_same, rfl, .nil, rfl, .nil⟩ ?_ ?_
          · rintro j G hj ⟨hpG, ebG, zs, ds, S, M, ns, hz, hzl, qs, ss, ta⟩
            refine ⟨rfl, ?_⟩
            refine yes_of ?_
            rw [if_pos rfl]
            have jc : j * cst k ≤ 2 * cst k := Nat.mul_le_mul_right _ (by omega)
            refine ⟨.ref p, rfl, .int w, rfl, _, rfl, ((k + 1 : Nat) : Int), 1, rfl, rfl, p, a, w, _, ?_, w0, w4, hpG, by omega, fun v d S' M' n G1 eb1 hp1' q nl tm => ?_⟩
            · have : ((k + 1 : Nat) : Int) - 1 = (k : Nat) := by omega
              show [V.ref p, V.int w, V.int (((k + 1 : Nat) : Int) - 1)] = _
              rw [this]
            obtain ⟨xg, hxg⟩ := hpG.hasP
            have qs1 : DqAll K p G1 zs ds := DqAll.nl hxg eb1 _ _ ss qs
            have hz1 : G1 D = some (.lst zs) := eb1 _ _ nDp hz
            have up : ExB D G1 (upd G1 D (.lst (zs ++ [v]))) := ExB.upd (ExB.refl D G1)
            refine ⟨zs, hz1, small1000 (by omega), ?_, fun b o nb hb => ?_, zs ++ [v], ds ++ [d], S + S', M + M', ns ++ [n], upd_same, by rw [List.length_append, hzl]; rfl, ?_, ?_, ta.snoc tm⟩
            · have := hp1'.upd (o := .lst (zs ++ [v])) nDp nDa
              rw [Nat.succ_mul, ← Nat.add_assoc]
              exact this
            · rw [upd_ne (ne_of_none hb nD)]
              exact eb1 _ _ nb (ebG _ _ nb hb)
            · exact (DqAll.nl hz1 up _ _ ss qs1).append (.cons (Dq.nl hz1 up _ _ nl q) .nil)
            · rw [noLA_app, ss]
              simp [noLA, nl]
          · rintro G ⟨hpG, ebG, zs, ds, S, M, ns, hz, hzl, qs, ss, ta⟩
            have dl : ds.length = m.toNat := by rw [← qs.len, hzl]
            refine ⟨D, zs, rfl, .inl ⟨SqL.of hz, fun t1 f1 => ?_⟩⟩
            have x1 := Ex.new (o := .tup zs) f1
            refine ⟨by show 2 ≤ sizeLine; decide, fun t2 f2 => ?_⟩
            have x2 := x1.trans (Ex.new (o := .tup [.str "all", .ref t1]) f2)
            refine kk (.ref t2) (.tuple [.str "all", .tuple ds]) S (M + 1) (prodN ns) _ (((eb1.trans eb2).trans eb3).trans (ebG.trans (Ex.b x2))) ((hpG.ex x2).mono ?_) (.tup (SqT.of upd_same) (.cons (.str _) (.cons (.tup (ex_t (Ex.new f2) (SqT.of upd_same)) (DqAll.ex x2 _ _ qs)) .nil))) ?_ (.al ta (by omega) (by omega))
            · have : m.toNat * cst k ≤ 3 * cst k := Nat.mul_le_mul_right _ (by omega)
              omega
            · have s1 : strS "all" = true := by decide +kernel
              simp [noL, noLA, ss, s1]
        · exact n_next (hNX _ _ ⟨rfl, eb1, hp1.mono (by omega)⟩)
      rintro σ G2 ⟨rfl, eb2, hp2⟩
      refine s_join (fun σ G => σ = [some (.ref p), some (.int w), some (.int ((k + 1 : Nat) : Int)), none, none, none, none] ∧ ExB p H G ∧ Pen G p a (N + 3)) (fun NX hNX => ?_) ?_
      · refine ⟨_, rfl, _, _, rfl, rfl, _, rfl, ite2 (fun c => ?_) (fun c => ?_)⟩
        · refine ⟨.ref p, rfl, p, a, 7, N + 2, rfl, hp2, by decide, by decide, by omega, fun r G4 r0 r7 eb4 hp4 => ⟨rfl, _, rfl, ite2 (fun c2 => ?_) (fun c2 => ?_)⟩⟩
          rotate_left
          · exact n_next (hNX _ _ ⟨rfl, eb2.trans eb4, hp4⟩)
          refine n_seq ?_
          refine ⟨2, rfl, by decide, by decide, fun D nD => ?_⟩
          obtain ⟨xb, hxb⟩ := hp4.hasP
          have nDp : D ≠ p := (ne_of_none hxb nD).symm
          have nDa : D ≠ a := by
            obtain ⟨xs, hx⟩ := hp4.hasC
            exact (ne_of_none hx nD).symm
          refine lc_range (lo := 0) (n := 2) (fun j G => Pen G p a (N + 3 + j * cst k) ∧ ExB p G4 G ∧ ∃ zs ds S M ns, G D = some (.lst zs) ∧ zs.length = j ∧ DqAll K p G zs ds ∧ noLA ds = true ∧ TmA (k + 1) ds S M ns) ⟨by rw [Nat.zero_mul]; exact hp4.ex (Ex.new nD), Ex.b (Ex.new nD), [], [], 0, 0, [], upd_same, rfl, .nil, rfl, .nil⟩ ?_ ?_
          · rintro j G hj ⟨hpG, ebG, zs, ds, S, M, ns, hz, hzl, qs, ss, ta⟩
            refine ⟨rfl, ?_⟩
            refine yes_of ?_
            rw [if_pos rfl]
            have jc : j * cst k ≤ 2 * cst k := Nat.mul_le_mul_right _ (by omega)
            refine ⟨.ref p, rfl, .int w, rfl, _, rfl, ((k + 1 : Nat) : Int), 1, rfl, rfl, p, a, w, _, ?_, w0, w4, hpG, by omega, fun v d S' M' n G1 eb1 hp1' q nl tm => ?_⟩
            · have : ((k + 1 : Nat) : Int) - 1 = (k : Nat) := by omega
              show [V.ref p, V.int w, V.int (((k + 1 : Nat) : Int) - 1)] = _
              rw [this]
            obtain ⟨xg, hxg⟩ := hpG.hasP
            have qs1 : DqAll K p G1 zs ds := DqAll.nl hxg eb1 _ _ ss qs
            have hz1 : G1 D = some (.lst zs) := eb1 _ _ nDp hz
            have up : ExB D G1 (upd G1 D (.lst (zs ++ [v]))) := ExB.upd (ExB.refl D G1)
            refine ⟨zs, hz1, small1000 (by omega), ?_, fun b o nb hb => ?_, zs ++ [v], ds ++ [d], S + S', M + M', ns ++ [n], upd_same, by rw [List.length_append, hzl]; rfl, ?_, ?_, ta.snoc tm⟩
            · have := hp1'.upd (o := .lst (zs ++ [v])) nDp nDa
              rw [Nat.succ_mul, ← Nat.add_assoc]
              exact this
            · rw [upd_ne (ne_of_none hb nD)]
              exact eb1 _ _ nb (ebG _ _ nb hb)
            · exact (DqAll.nl hz1 up _ _ ss qs1).append (.cons (Dq.nl hz1 up _ _ nl q) .nil)
            · rw [noLA_app, ss]
              simp [noLA, nl]
          · rintro G ⟨hpG, ebG, zs, ds, S, M, ns, hz, hzl, qs, ss, ta⟩
            refine n_name ?_
            dsimp only
            obtain ⟨z0, z1, rfl⟩ : ∃ z0 z1, zs = [z0, z1] := match zs, hzl with | [a, b], _ => ⟨a, b, rfl⟩
            obtain ⟨d0, d1, rfl⟩ : ∃ d0 d1, ds = [d0, d1] := match ds, qs.len with | [a, b], _ => ⟨a, b, rfl⟩
            refine s_retP (ed_tup (K := K) (p := p) (eds_cons ed_str (eds_cons (ed_P ed_I ed_I) (eds_cons (ed_tup (eds_cons (ed_P (ed_P ed_I ed_I) (ed_ixL (j := 0) rfl hz qs rfl)) (eds_cons (ed_P (ed_P ed_I ed_I) (ed_ixL (j := 1) rfl hz qs rfl)) eds_nil)) (by show 2 ≤ 1000; decide)) eds_nil))) (by show 3 ≤ 1000; decide)) fun v G5 e5 q5 => ?_
            simp only [noLA, Bool.and_eq_true, Bool.and_true] at ss
            refine kk v _ (S + 1) (M + 1) (1 + ns.sum) G5 (((eb2.trans eb4).trans ebG).trans (Ex.b e5)) ((hpG.ex e5).mono (by omega)) q5 (by simp [noL, noLA, ss.1, ss.2, sS]) (.st (by decide +kernel) (by show 2 ≤ 3; decide) ?_ ta)
            intro o ho
            simp only [List.mem_cons, List.not_mem_nil, or_false] at ho
            rcases ho with rfl | rfl
            · show posB _ = true
              decide +kernel
            · show posB _ = true
              decide +kernel
        · exact n_next (hNX _ _ ⟨rfl, eb2, hp2.mono (by omega)⟩)
      rintro σ G3 ⟨rfl, eb3, hp3⟩
      refine n_seq ?_
      refine ⟨.ref p, rfl, .int w, rfl, p, a, w, N + 3, rfl, hp3, by omega, fun l wz wd G4 eb4 hp4 hl nlp nla qw gw lw => ⟨l, rfl, ⟨_, SqL.of hl⟩, fun D nD => ?_⟩⟩
      have wl : wz.length = wd.length := qw.len
      have nlD : l ≠ D := ne_of_none hl nD
      have wn : noLA wd = true := noLA_of fun d hd => by
        have := gw d hd
        unfold goodW at this
        simp only [Bool.and_eq_true] at this
        exact this.2
      obtain ⟨xb, hxb⟩ := hp4.hasP
      have nDp : D ≠ p := (ne_of_none hxb nD).symm
      have nDa : D ≠ a := by
        obtain ⟨xs, hx⟩ := hp4.hasC
        exact (ne_of_none hx nD).symm
      refine lc_list (K := K) (a := l) (xs := wz) (fun j G => Pen G p a (N + 7 + j * cst k) ∧ ExB p G4 G ∧ G l = some (.lst wz) ∧ DqAll K p G wz wd ∧ ∃ zs os S M ns, G D = some (.lst zs) ∧ zs.length = j ∧ DqAll K p G zs os ∧ noLA os = true ∧ (∀ o ∈ os, outB o = true) ∧ TmA (k + 1) (os.map sndD) S M ns)
        ⟨by rw [Nat.zero_mul]; exact hp4.ex (Ex.new nD), Ex.b (Ex.new nD), (Ex.new nD) _ _ hl, DqAll.ex (Ex.new nD) _ _ qw, [], [], 0, 0, [], upd_same, rfl, .nil, rfl, fun _ z => (nomatch z), .nil⟩ (fun j G _ h => SqL.of h.2.2.1) ?_ ?_
      · rintro j x G hx ⟨hpG, ebG, hlG, qwG, zs, os, S, M, ns, hz, hzl, qs, ss, ob, ta⟩
        have jl : j < wz.length := (List.getElem?_eq_some_iff.mp hx).1
        obtain ⟨dj, hdj⟩ : ∃ dj, wd[j]? = some dj := ⟨_, List.getElem?_eq_getElem (by rw [← wl]; exact jl)⟩
        have gj := gw dj (List.mem_of_getElem? hdj)
        unfold goodW at gj
        simp only [Bool.and_eq_true] at gj
        obtain ⟨x', hx', qx⟩ := qwG.get hdj
        rw [hx] at hx'
        cases hx'
        refine ⟨rfl, ?_⟩
        refine yes_of ?_
        rw [if_pos rfl]
        have jc : j * cst k ≤ 2 * cst k := Nat.mul_le_mul_right _ (by omega)
        refine ⟨x, rfl, .ref p, rfl, .int w, rfl, _, rfl, ((k + 1 : Nat) : Int), 1, rfl, rfl, p, a, w, _, ?_, w0, w4, hpG, by omega, fun v d S' M' n G1 eb1' hp1' q nl tm => ?_⟩
        · have : ((k + 1 : Nat) : Int) - 1 = (k : Nat) := by omega
          show [V.ref p, V.int w, V.int (((k + 1 : Nat) : Int) - 1)] = _
          rw [this]
        refine ⟨by show 2 ≤ sizeLine; decide, fun t1 f1 => ?_⟩
        obtain ⟨xg, hxg⟩ := hpG.hasP
        have x1 := Ex.new (o := .tup [x, v]) f1
        have qs1 := DqAll.ex x1 _ _ (DqAll.nl (p' := p) hxg eb1' _ _ ss qs)
        have qw1 := DqAll.ex x1 _ _ (DqAll.nl (p' := p) hxg eb1' _ _ wn qwG)
        have qx1 := Dq.ex x1 _ _ (Dq.nl (p' := p) hxg eb1' _ _ gj.2 qx)
        have qv1 := Dq.ex x1 _ _ q
        have hz1 := x1 _ _ (eb1' _ _ nDp hz)
        have hl1 := x1 _ _ (eb1' _ _ nlp hlG)
        have qt : Dq K p (upd G1 t1 (.tup [x, v])) (.ref t1) (.tuple [dj, d]) := .tup (SqT.of upd_same) (.cons qx1 (.cons qv1 .nil))
        have nlo : noL (.tuple [dj, d]) = true := by simp [noL, noLA, gj.2, nl]
        have up : ExB D (upd G1 t1 (.tup [x, v])) (upd (upd G1 t1 (.tup [x, v])) D (.lst (zs ++ [.ref t1]))) := ExB.upd (ExB.refl D _)
        refine ⟨zs, hz1, small1000 (by omega), ?_, fun b o nb hb => ?_, by rw [upd_ne nlD]; exact hl1, DqAll.nl hz1 up _ _ wn qw1, zs ++ [.ref t1], os ++ [.tuple [dj, d]], S + S', M + M', ns ++ [n], upd_same, by rw [List.length_append, hzl]; rfl, ?_, ?_, ?_, ?_⟩
        · have := (hp1'.ex x1).upd (o := .lst (zs ++ [.ref t1])) nDp nDa
          rw [Nat.succ_mul, ← Nat.add_assoc]
          exact this
        · rw [upd_ne (ne_of_none hb nD)]
          exact x1 _ _ (eb1' _ _ nb (ebG _ _ nb hb))
        · exact (DqAll.nl hz1 up _ _ ss qs1).append (.cons (Dq.nl hz1 up _ _ nlo qt) .nil)
        · rw [noLA_app, ss]
          simp [noLA, nlo]
        · intro o ho
          rcases List.mem_append.mp ho with ho | ho
          · exact ob o ho
          · rw [List.mem_singleton] at ho
            subst ho
            exact gj.1
        · rw [List.map_append]
          exact ta.snoc tm
      · rintro G ⟨hpG, ebG, hlG, qwG, zs, os, S, M, ns, hz, hzl, qs, ss, ob, ta⟩
        refine n_name ?_
        dsimp only
        have jc : wz.length * cst k ≤ 3 * cst k := Nat.mul_le_mul_right _ (by omega)
        refine ⟨.ref p, rfl, .int w, rfl, p, a, w, _, rfl, w0, w4, hpG, by omega, fun z q H5 eb5 hp5 fr => ?_⟩
        obtain ⟨xg, hxg⟩ := hpG.hasP
        have hz5 := eb5 _ _ nDp hz
        have qs5 := DqAll.nl (p' := p) hxg eb5 _ _ ss qs
        refine ⟨.ref D, rfl, D, zs, rfl, .inl ⟨SqL.of hz5, fun t1 f1 => ?_⟩⟩
        have x1 := Ex.new (o := .tup zs) f1
        refine ⟨by show 3 ≤ sizeLine; decide, fun t2 f2 => ?_⟩
        have x2 := x1.trans (Ex.new (o := .tup [.str "step", z, .ref t1]) f2)
        refine kk (.ref t2) (.tuple [.str "step", frd q, .tuple os]) (S + 1) (M + 1) (1 + ns.sum) _ ((((eb3.trans eb4).trans ebG).trans eb5).trans (Ex.b x2)) ((hp5.ex x2).mono (by omega)) (.tup (SqT.of upd_same) (.cons (.str _) (.cons (Dq.ex x2 _ _ fr.dq) (.cons (.tup (ex_t (Ex.new f2) (SqT.of upd_same)) (DqAll.ex x2 _ _ qs5)) .nil)))) ?_ (.st (frB_frd q) (by rw [← qs.len, hzl]; omega) ob ta)
        have s1 : strS "step" = true := by decide +kernel
        simp only [noL, noLA, ss, s1, noL_frd fr.bd (by decide), Bool.and_self, Bool.true_and, Bool.and_true]
end
/-! ### the law's own size of a term -/
def bnd : Nat → Nat
  | 0 => 0
  | k + 1 => (1 + 3 * bnd k) ^ 3
theorem prod_le {B : Nat} (hB : 1 ≤ B) : ∀ {ns : List Nat}, (∀ n ∈ ns, n ≤ B) → ns.length ≤ 3 → prodN ns ≤ B ^ 3
  | [], _, _ => by show 1 ≤ B ^ 3; exact Nat.one_le_pow _ _ hB
  | [x], h, _ => by
    have := h x (by simp)
    show x * 1 ≤ B ^ 3
    have h2 : B ^ 1 ≤ B ^ 3 := Nat.pow_le_pow_right hB (by decide)
    rw [Nat.pow_one] at h2
    omega
  | [x, y], h, _ => by
    show x * (y * 1) ≤ B ^ 3
    have h1 : x * (y * 1) ≤ B * B := Nat.mul_le_mul (h x (by simp)) (by rw [Nat.mul_one]; exact h y (by simp))
    have h2 : B ^ 2 ≤ B ^ 3 := Nat.pow_le_pow_right hB (by decide)
    rw [Nat.pow_two] at h2
    omega
  | [x, y, z], h, _ => by
    show x * (y * (z * 1)) ≤ B ^ 3
    have h1 : x * (y * (z * 1)) ≤ B * (B * B) := Nat.mul_le_mul (h x (by simp)) (Nat.mul_le_mul (h y (by simp)) (by rw [Nat.mul_one]; exact h z (by simp)))
    have h2 : B ^ 3 = B * (B * B) := by rw [Nat.pow_succ, Nat.pow_two, Nat.mul_assoc]
    omega
  | _ :: _ :: _ :: _ :: _, _, hl => by simp at hl
theorem sum_le {B : Nat} : ∀ {ns : List Nat}, (∀ n ∈ ns, n ≤ B) → ns.sum ≤ ns.length * B
  | [], _ => by simp
  | x :: ns, h => by
    have h1 := sum_le (ns := ns) fun n hn => h n (by simp [hn])
    have h2 := h x (by simp)
    rw [List.sum_cons, List.length_cons, Nat.succ_mul]
    omega
theorem TmA.len {k S N : Nat} {ds : List PyData} {ns : List Nat} (h : TmA k ds S N ns) : ds.length = ns.length := by
  induction ds generalizing S N ns with
  | nil => cases h; rfl
  | cons d ds ih =>
    cases h with
    | cons h hs => exact congrArg Nat.succ (ih hs)
theorem tm_bnd : ∀ (k : Nat), (∀ {d : PyData} {S N n : Nat}, Tm k d S N n → n ≤ bnd k)
  | 0, _, _, _, _, h => by cases h
  | k + 1, _, _, _, _, h => by
    have step : ∀ {ds : List PyData} {S N : Nat} {ns : List Nat}, TmA k ds S N ns → ∀ n ∈ ns, n ≤ bnd k := fun {ds S N ns} h => by
      induction ds generalizing S N ns with
      | nil => cases h; intro n hn; cases hn
      | cons d ds ih =>
        cases h with
        | cons h hs =>
          intro n hn
          rcases List.mem_cons.mp hn with rfl | hn
          · exact tm_bnd k h
          · exact ih hs n hn
    have p1 : (1 + 3 * bnd k) ^ 1 ≤ (1 + 3 * bnd k) ^ 3 := Nat.pow_le_pow_right (by omega) (by decide)
    rw [Nat.pow_one] at p1
    show _ ≤ (1 + 3 * bnd k) ^ 3
    cases h with
    | e => omega
    | al ta l2 l3 => exact prod_le (by omega) (fun n hn => Nat.le_trans (step ta n hn) (by omega)) (by rw [← ta.len]; exact l3)
    | @st _ _ _ _ os ns fq ol ob ta =>
      have h1 := sum_le (step ta)
      have h2 : ns.length ≤ 3 := by
        rw [← ta.len, List.length_map]
        exact ol
      have h3 : ns.length * bnd k ≤ 3 * bnd k := Nat.mul_le_mul_right _ h2
      omega
theorem tma_bnd {k S N : Nat} {ds : List PyData} {ns : List Nat} (h : TmA k ds S N ns) : ∀ n ∈ ns, n ≤ bnd k := by
  induction ds generalizing S N ns with
  | nil => cases h; intro n hn; cases hn
  | cons d ds ih =>
    cases h with
    | cons h hs =>
      intro n hn
      rcases List.mem_cons.mp hn with rfl | hn
      · exact tm_bnd k h
      · exact ih hs n hn
theorem bnd_mono : ∀ {j k : Nat}, j ≤ k → bnd j ≤ bnd k
  | 0, k, _ => Nat.zero_le _
  | j + 1, 0, h => by omega
  | j + 1, k + 1, h => Nat.pow_le_pow_left (by have := bnd_mono (j := j) (k := k) (by omega); omega) 3
theorem tma_small {k S N : Nat} {ds : List PyData} {ns : List Nat} (h : TmA k ds S N ns) (hk : k ≤ 4) (hl : ns.length ≤ 3) : SmallP ns := fun i => by
  have b := tma_bnd h
  have b4 : bnd 5 < 2 ^ 1000 := by decide +kernel
  have b5 : bnd (k + 1) ≤ bnd 5 := bnd_mono (by omega)
  have p1 : bnd k ≤ bnd (k + 1) := bnd_mono (by omega)
  refine ⟨?_, fun n hn => by have := b n hn; omega⟩
  have := prod_le (B := 1 + 3 * bnd k) (by omega) (ns := ns.take i) (fun n hn => Nat.le_trans (b n (List.mem_of_mem_take hn)) (by omega)) (by rw [List.length_take]; omega)
  have e : bnd (k + 1) = (1 + 3 * bnd k) ^ 3 := rfl
  omega
theorem tm_size : ∀ (k : Nat), k ≤ 5 → ∀ {d : PyData} {S N n : Nat}, Tm k d S N n → Sz k d n
  | 0, _, _, _, _, _, h => by cases h
  | k + 1, hk, _, _, _, _, h => by
    have step : ∀ {ds : List PyData} {S N : Nat} {ns : List Nat}, TmA k ds S N ns → SzA k ds ns := fun {ds S N ns} h => by
      induction ds generalizing S N ns with
      | nil => cases h; exact .nil
      | cons d ds ih =>
        cases h with
        | cons h hs => exact .cons (tm_size k (by omega) h) (ih hs)
    cases h with
    | e => exact .mk (k := k) (d := .tuple [.str "end"]) (ns := []) (by decide +kernel) .nil fun i => ⟨by show prodN ([].take i) < _; rw [List.take_nil]; show 1 < 2 ^ 1000; decide +kernel, fun _ z => nomatch z⟩
    | @al _ _ _ ts ns ta l2 l3 =>
      refine .mk (k := k) (d := .tuple [.str "all", .tuple ts]) (ns := ns) ?_ (step ta) (tma_small ta (by omega) (by rw [← ta.len]; exact l3))
      show (decide (2 ≤ ts.length) && decide (ts.length ≤ 3)) = true
      rw [decide_eq_true l2, decide_eq_true l3]
      rfl
    | @st _ _ _ q os ns fq ol ob ta =>
      refine .mk (k := k) (d := .tuple [.str "step", q, .tuple os]) (ns := ns) ?_ (step ta) (tma_small ta (by omega) (by rw [← ta.len, List.length_map]; exact ol))
      show (frB q && (decide (os.length ≤ 3) && os.all outB)) = true
      rw [fq, decide_eq_true ol, List.all_eq_true.mpr ob]
      rfl
/-! ### the law's own count of a size -/
section
variable {P : Program} {w : World} {K : PySem.W.Frag} {mg : Str → Option Value} {base : Heap}
theorem ok__law_size (T : Txt K mg) : ∀ k, FnOk P w K mg base CX0 (1 + k) T.d__law_size.a T.d__law_size.fd ["_law_term_here"] (spSize K k) := by
  intro k
  induction k with
  | zero =>
    refine (T.d__law_size.F.ok (k := 0) sc__law_size (fun vs H Q E h => ?_) fun cdv A outer s H vs Q E hr h => ?_)
    · obtain ⟨p, v, d, n, rfl, _⟩ := h
      rfl
    · obtain ⟨p, v, d, n, rfl, _, hz, _⟩ := h
      cases hz
  | succ k ih =>
    refine (T.d__law_size.F.ok (k := 1 + k) sc__law_size (fun vs H Q E h => ?_) fun cdv A outer s H vs Q E hr h => ?_)
    · obtain ⟨p, v, d, n, rfl, _⟩ := h
      rfl
    · obtain ⟨p, v, d, n, rfl, hd, hz, kk⟩ := h
      refine ⟨_, (pss_cons (ps_if (pt_cmpR op_eq (pe_ix ix_tup (pv 0) pe_int (fun _ _ => rfl)) pe_str (nomark _)) (pss_one (ps_ret pe_int)) pss_nil)
      (pss_cons (ps_par (i := 1) (j := 2) (by rfl) sc__law_size.nd rfl rfl (by decide) rfl rfl (pa_cons (pe_lc (own := [("_law_one", 4)]) (g := gName 4) (tt := tYes) rfl sc__law_size.nd (pi_if (pt_cmpR op_eq (pe_ix ix_tup (pv 0) pe_int (fun _ _ => rfl)) pe_str (nomark _)) (pi_tup (pe_ix ix_tup (pv 0) pe_int (fun _ _ => rfl))) (pi_list (pe_lc (own := [("_law_two", 5)]) (g := gName 5) (te := tOp (rIxT K) (tVar 5) (tC (.int 1))) (tt := tYes) rfl sc__law_size.nd (pi_tup (pe_ix ix_tup (pv 0) pe_int (fun _ _ => rfl))) (blkOk_by (own := [("_law_two", 5)]) (N := n__law_size) (sc := defScope s__law_size) (by decide +kernel)) (fun _ _ _ _ _ => pg_name (i := 5) sc__law_size.nd rfl (Or.inl rfl)) (fun _ _ _ _ _ => pts_nil) (fun _ _ _ _ _ => (pe_ix ix_tup (pv 5) pe_int (fun _ _ => rfl)))))) (blkOk_by (own := [("_law_one", 4)]) (N := n__law_size) (sc := defScope s__law_size) (by decide +kernel)) (fun _ _ _ _ _ => pg_name (i := 4) sc__law_size.nd rfl (Or.inl rfl)) (fun _ _ _ _ _ => pts_nil) (fun _ _ _ _ _ => (pe_call ih (hr.mono (by omega)) (by rfl) T.d__law_size.g T.d__law_size.F.kp T.d__law_size.b .nil pass0 (pa_cons (pv 4) pa_nil)))) (pa_cons pe_int pa_nil)) (by rfl))
      (pss_cons (ps_for PassesOwn.never rfl (pi_list (pv 1)) (pg_name (i := 3) sc__law_size.nd rfl (Or.inl rfl)) (pss_one (ps_set (i := 2) sc__law_size.nd rfl (Or.inl rfl) (pe_op op_mulW (pv 2) (pv 3)))))
      (pss_one (ps_ret (pe_ifExp (pt_cmpR op_eq (pe_ix ix_tup (pv 0) pe_int (fun _ _ => rfl)) pe_str (nomark _)) (pv 2) (pe_op op_add pe_int (pe_callB (cr_sum rfl) (by rfl) T.n_sum (by decide +kernel) (pa_cons (pv 1) pa_nil))))))))), ?_⟩
      cases hz with
      | @mk _ _ ns hb hA hB =>
      rcases headB_cases hb with rfl | ⟨ts, rfl, l2, l3⟩ | ⟨q, os, rfl, hq, hl, ho⟩
      · cases hA
        refine s_if (b := true) (et_is (et_test (ev_name (t := "end") rfl hd)) rfl) (fun _ H1 e1 => kk H1 e1) fun z => nomatch z
      · refine s_if (b := false) (et_is (et_test (ev_name (t := "end") rfl hd)) rfl) (fun z => nomatch z) fun _ H1 e1 => ?_
        have hd1 := Dq.ex e1 _ _ hd
        refine n_next ?_
        dsimp only
        refine n_seq ?_
        refine (et_test (ev_name (K := K) (p := p) (t := "all") rfl hd1)) H1 (Ex.refl _) _ fun H2 e2 => ?_
        refine iteT ?_
        refine ed_ix (K := K) (p := p) (j := 1) rfl (Dq.ex e2 _ _ hd1) rfl H2 (Ex.refl _) _ fun x G0 e3 q3 => ?_
        obtain ⟨a, ys, rfl, hS, hD⟩ := q3.seq
        refine ⟨a, rfl, ⟨_, hS⟩, fun D nD => ?_⟩
        have E0' : Ex H G0 := (e1.trans e2).trans e3
        generalize hds : kidsD (.tuple [.str "all", .tuple ts]) = ds at hA
        obtain rfl : ts = ds := hds
        have ysl : ys.length = ns.length := by rw [hD.len, hA.len]
        have y3 : ys.length ≤ 3 := by rw [hD.len]; exact l3
        refine lc_tup (K := K) (a := a) (xs := ys) (fun i G' => Ex G0 G' ∧ G' D = some (.lst (intsN (ns.take i)))) ⟨Ex.new nD, upd_same⟩ (fun i G' _ h => ex_t h.1 hS) ?_ ?_
        · rintro i x G1 hx ⟨e5, h1⟩
          have il : i < ys.length := (List.getElem?_eq_some_iff.mp hx).1
          obtain ⟨di, hdi⟩ : ∃ di, ts[i]? = some di := ⟨_, List.getElem?_eq_getElem (by rw [← hD.len]; exact il)⟩
          obtain ⟨x', hx', qx⟩ := hD.get hdi
          rw [hx] at hx'
          cases hx'
          obtain ⟨ni, hni, hsz⟩ := hA.get hdi
          refine ⟨rfl, ?_⟩
          refine yes_of ?_
          rw [if_pos rfl]
          refine ⟨x, rfl, p, x, di, ni, rfl, Dq.ex e5 _ _ qx, hsz, fun G2 e6 => ?_⟩
          refine ⟨_, e6 _ _ h1, small1000 (by unfold intsN; rw [List.length_map, List.length_take]; omega), Ex.mut (e5.trans e6) nD, ?_⟩
          rw [upd_same, List.take_succ, hni]
          unfold intsN
          rw [List.map_append]
          rfl
        · rintro G1 ⟨e5, h1⟩
          rw [ysl, List.take_length] at h1
          refine ⟨_, _, rfl, ?_⟩
          dsimp only
          refine n_seq ?_
          refine ⟨_, rfl, D, rfl, ⟨_, SqL.of h1⟩, ?_⟩
          refine for_list (K := K) (a := D) (xs := intsN ns) (fun i σ G => G = G1 ∧ ∃ x : Option V, σ = [some v, some (.ref D), some (.int (prodN (ns.take i) : Nat)), x, none, none]) ⟨rfl, none, rfl⟩ (fun i σ G _ ⟨e, _⟩ => by rw [e]; exact SqL.of h1) ?_ ?_
          · rintro i x σ G hx ⟨rfl, y, rfl⟩
            unfold intsN at hx
            rw [List.getElem?_map] at hx
            cases hn : ns[i]? with
            | none => rw [hn] at hx; cases hx
            | some n =>
              rw [hn] at hx
              cases hx
              refine n_name ?_
              dsimp only
              have b1 := (hB i).1
              have b2 := (hB i).2 n (List.mem_of_getElem? hn)
              refine ⟨_, rfl, _, rfl, _, _, rfl, rfl, mulW (a := 1000) (b := 1000) (by omega) (by omega) (by decide), rfl, some (V.int n), ?_⟩
              rw [List.take_succ, hn]
              show _ = [_, _, some (V.int ((prodN (ns.take i ++ [n]) : Nat) : Int)), _, _, _]
              rw [prodN_snoc, Int.natCast_mul]
              rfl
          · rintro σ G ⟨rfl, y, rfl⟩
            have e : ns.take (intsN ns).length = ns := by
              unfold intsN
              rw [List.length_map, List.take_length]
            rw [e]
            have hdz := Dq.ex (E0'.trans e5) _ _ hd
            refine (et_test (ev_name (K := K) (p := p) (t := "all") rfl hdz)) G (Ex.refl _) _ fun G3 e7 => ?_
            refine iteT ?_
            exact ⟨_, rfl, kk G3 ((E0'.trans e5).trans e7)⟩
      · refine s_if (b := false) (et_is (et_test (ev_name (t := "end") rfl hd)) rfl) (fun z => nomatch z) fun _ H1 e1 => ?_
        have hd1 := Dq.ex e1 _ _ hd
        refine n_next ?_
        dsimp only
        refine n_seq ?_
        refine (et_test (ev_name (K := K) (p := p) (t := "all") rfl hd1)) H1 (Ex.refl _) _ fun H2 e2 => ?_
        refine iteF ?_
        refine ed_ix (K := K) (p := p) (j := 2) rfl (Dq.ex e2 _ _ hd1) rfl H2 (Ex.refl _) _ fun x Ga e3 q3 => ?_
        obtain ⟨a, xs, rfl, hS, hX⟩ := q3.seq
        refine ⟨a, rfl, ⟨_, hS⟩, fun D2 nD2 => ?_⟩
        refine lc_tup (K := K) (a := a) (xs := xs) (fun j G => Ex Ga G ∧ ∃ ys, G D2 = some (.lst ys) ∧ ys.length = j ∧ DqAll K p Ga ys ((os.take j).map sndD)) ⟨Ex.new nD2, [], upd_same, rfl, .nil⟩ (fun i G _ h => ex_t h.1 hS) ?_ ?_
        · rintro i y G hy ⟨ex, ys, hys, hyl, hq2⟩
          have il : i < xs.length := (List.getElem?_eq_some_iff.mp hy).1
          have iol : i < os.length := by rw [← hX.len]; exact il
          have eo := List.getElem?_eq_getElem iol
          obtain ⟨y', hy', qy⟩ := hX.get eo
          rw [hy] at hy'
          cases hy'
          obtain ⟨wd, dd, ed⟩ := outB_two (ho _ (List.getElem_mem iol))
          rw [ed] at qy eo
          refine ⟨rfl, ?_⟩
          refine yes_of ?_
          rw [if_pos rfl]
          obtain ⟨b, zs, rfl, hS2, hA2⟩ := qy.seq
          obtain ⟨z, ez, qz⟩ := hA2.get (j := 1) (dj := dd) rfl
          refine ⟨_, rfl, b, zs, 1, z, rfl, rfl, ex_t ex hS2, atI_nat (j := 1) ez, ?_⟩
          refine ⟨_, hys, small1000 (by omega), Ex.mut ex nD2, ys ++ [z], upd_same, by simp [hyl], ?_⟩
          rw [List.take_succ, eo, List.map_append]
          exact hq2.append (.cons qz .nil)
        rintro G0 ⟨ex, ys, hys, hyl, hq2⟩
        rw [hX.len, List.take_length] at hq2
        have hD := DqAll.ex ex _ _ hq2
        refine ⟨D2, rfl, ⟨_, SqL.of hys⟩, fun D nD => ?_⟩
        have E0' : Ex H G0 := ((e1.trans e2).trans e3).trans ex
        generalize hds : kidsD (.tuple [.str "step", q, .tuple os]) = ds at hA
        obtain rfl : os.map sndD = ds := hds
        have ysl : ys.length = ns.length := by rw [hD.len, hA.len]
        have y3 : ys.length ≤ 3 := by rw [hD.len, List.length_map]; exact hl
        refine lc_list (K := K) (a := D2) (xs := ys) (fun i G' => Ex G0 G' ∧ G' D = some (.lst (intsN (ns.take i)))) ⟨Ex.new nD, upd_same⟩ (fun i G' _ h => SqL.of (h.1 _ _ hys)) ?_ ?_
        · rintro i x G1 hx ⟨e5, h1⟩
          have il : i < ys.length := (List.getElem?_eq_some_iff.mp hx).1
          obtain ⟨di, hdi⟩ : ∃ di, (os.map sndD)[i]? = some di := ⟨_, List.getElem?_eq_getElem (by rw [← hD.len]; exact il)⟩
          obtain ⟨x', hx', qx⟩ := hD.get hdi
          rw [hx] at hx'
          cases hx'
          obtain ⟨ni, hni, hsz⟩ := hA.get hdi
          refine ⟨rfl, ?_⟩
          refine yes_of ?_
          rw [if_pos rfl]
          refine ⟨x, rfl, p, x, di, ni, rfl, Dq.ex e5 _ _ qx, hsz, fun G2 e6 => ?_⟩
          refine ⟨_, e6 _ _ h1, small1000 (by unfold intsN; rw [List.length_map, List.length_take]; omega), Ex.mut (e5.trans e6) nD, ?_⟩
          rw [upd_same, List.take_succ, hni]
          unfold intsN
          rw [List.map_append]
          rfl
        · rintro G1 ⟨e5, h1⟩
          rw [ysl, List.take_length] at h1
          refine ⟨_, _, rfl, ?_⟩
          dsimp only
          refine n_seq ?_
          refine ⟨_, rfl, D, rfl, ⟨_, SqL.of h1⟩, ?_⟩
          refine for_list (K := K) (a := D) (xs := intsN ns) (fun i σ G => G = G1 ∧ ∃ x : Option V, σ = [some v, some (.ref D), some (.int (prodN (ns.take i) : Nat)), x, none, none]) ⟨rfl, none, rfl⟩ (fun i σ G _ ⟨e, _⟩ => by rw [e]; exact SqL.of h1) ?_ ?_
          · rintro i x σ G hx ⟨rfl, y, rfl⟩
            unfold intsN at hx
            rw [List.getElem?_map] at hx
            cases hn : ns[i]? with
            | none => rw [hn] at hx; cases hx
            | some n =>
              rw [hn] at hx
              cases hx
              refine n_name ?_
              dsimp only
              have b1 := (hB i).1
              have b2 := (hB i).2 n (List.mem_of_getElem? hn)
              refine ⟨_, rfl, _, rfl, _, _, rfl, rfl, mulW (a := 1000) (b := 1000) (by omega) (by omega) (by decide), rfl, some (V.int n), ?_⟩
              rw [List.take_succ, hn]
              show _ = [_, _, some (V.int ((prodN (ns.take i ++ [n]) : Nat) : Int)), _, _, _]
              rw [prodN_snoc, Int.natCast_mul]
              rfl
          · rintro σ G ⟨rfl, y, rfl⟩
            have e : ns.take (intsN ns).length = ns := by
              unfold intsN
              rw [List.length_map, List.take_length]
            rw [e]
            have hdz := Dq.ex (E0'.trans e5) _ _ hd
            refine (et_test (ev_name (K := K) (p := p) (t := "all") rfl hdz)) G (Ex.refl _) _ fun G3 e7 => ?_
            refine iteF ?_
            refine ⟨_, rfl, D, ns.map fun (n : Nat) => (n : Int), rfl, ?_, _, _, rfl, rfl, ?_⟩
            · rw [List.map_map]
              exact SqL.of (e7 _ _ h1)
            · have es : (ns.map fun (n : Nat) => (n : Int)).sum = ((ns.sum : Nat) : Int) := by
                clear kk h1 hB hA ysl e nD
                induction ns with
                | nil => rfl
                | cons n ns ih =>
                  rw [List.map_cons, List.sum_cons, List.sum_cons, ih, Int.natCast_add]
              rw [es]
              have := kk G3 ((E0'.trans e5).trans e7)
              rw [if_pos (by rfl)] at this
              rw [Int.natCast_add] at this
              exact this
end
/-! ### the law's own count of parts -/
theorem TmA.parts {k S N : Nat} {ds : List PyData} {ns : List Nat} (h : TmA k ds S N ns) : ∃ Ms : List Nat, ds.length = Ms.length ∧ Ms.sum = N ∧ ∀ (i : Nat) (d : PyData), ds[i]? = some d → ∃ S' M n', Ms[i]? = some M ∧ Tm k d S' M n' := by
  induction ds generalizing S N ns with
  | nil =>
    cases h
    exact ⟨[], rfl, rfl, fun i d e => by simp at e⟩
  | cons d ds ih =>
    cases h with
    | @cons _ s m _ _ n _ _ _ h hs =>
      obtain ⟨Ms, h1, h2, h3⟩ := ih hs
      refine ⟨m :: Ms, congrArg Nat.succ h1, by rw [List.sum_cons, h2], fun i e he => ?_⟩
      cases i with
      | zero =>
        simp only [List.getElem?_cons_zero, Option.some.injEq] at he
        subst he
        exact ⟨s, m, n, rfl, h⟩
      | succ i =>
        simp only [List.getElem?_cons_succ] at he ⊢
        exact h3 i e he
def spParts (K : PySem.W.Frag) (k : Nat) : Sp := fun vs H Q _ => ∃ (p : Addr) (v : V) (d : PyData) (S N n : Nat), vs = [v] ∧ Dq K p H v d ∧ Tm k d S N n ∧ ∀ H', Ex H H' → Q (.int (N : Nat)) H'
section
variable {P : Program} {w : World} {K : PySem.W.Frag} {mg : Str → Option Value} {base : Heap}
theorem ok__law_parts (T : Txt K mg) : ∀ k, FnOk P w K mg base CX0 (1 + k) T.d__law_parts.a T.d__law_parts.fd ["_law_term_here"] (spParts K k) := by
  intro k
  induction k with
  | zero =>
    refine (T.d__law_parts.F.ok (k := 0) sc__law_parts (fun vs H Q E h => ?_) fun cdv A outer s H vs Q E hr h => ?_)
    · obtain ⟨p, v, d, S, N, n, rfl, _⟩ := h
      rfl
    · obtain ⟨p, v, d, S, N, n, rfl, _, hz, _⟩ := h
      cases hz
  | succ k ih =>
    refine (T.d__law_parts.F.ok (k := 1 + k) sc__law_parts (fun vs H Q E h => ?_) fun cdv A outer s H vs Q E hr h => ?_)
    · obtain ⟨p, v, d, S, N, n, rfl, _⟩ := h
      rfl
    · obtain ⟨p, v, d, S, N, n, rfl, hd, hz, kk⟩ := h
      refine ⟨_, (pss_cons (ps_if (pt_cmpR op_eq (pe_ix ix_tup (pv 0) pe_int (fun _ _ => rfl)) pe_str (nomark _)) (pss_one (ps_ret pe_int)) pss_nil)
      (pss_one (ps_ret (pe_op op_add pe_int (pe_callB (cr_sum rfl) (by rfl) T.n_sum (by decide +kernel) (pa_cons (pe_lc (own := [("_law_one", 1)]) (g := gName 1) (tt := tYes) rfl sc__law_parts.nd (pi_if (pt_cmpR op_eq (pe_ix ix_tup (pv 0) pe_int (fun _ _ => rfl)) pe_str (nomark _)) (pi_tup (pe_ix ix_tup (pv 0) pe_int (fun _ _ => rfl))) (pi_list (pe_lc (own := [("_law_two", 2)]) (g := gName 2) (te := tOp (rIxT K) (tVar 2) (tC (.int 1))) (tt := tYes) rfl sc__law_parts.nd (pi_tup (pe_ix ix_tup (pv 0) pe_int (fun _ _ => rfl))) (blkOk_by (own := [("_law_two", 2)]) (N := n__law_parts) (sc := defScope s__law_parts) (by decide +kernel)) (fun _ _ _ _ _ => pg_name (i := 2) sc__law_parts.nd rfl (Or.inl rfl)) (fun _ _ _ _ _ => pts_nil) (fun _ _ _ _ _ => (pe_ix ix_tup (pv 2) pe_int (fun _ _ => rfl)))))) (blkOk_by (own := [("_law_one", 1)]) (N := n__law_parts) (sc := defScope s__law_parts) (by decide +kernel)) (fun _ _ _ _ _ => pg_name (i := 1) sc__law_parts.nd rfl (Or.inl rfl)) (fun _ _ _ _ _ => pts_nil) (fun _ _ _ _ _ => (pe_call ih (hr.mono (by omega)) (by rfl) T.d__law_parts.g T.d__law_parts.F.kp T.d__law_parts.b .nil pass0 (pa_cons (pv 1) pa_nil)))) pa_nil)))))), ?_⟩
      cases hz with
      | e => exact s_if (b := true) (et_is (et_test (ev_name (t := "end") rfl hd)) rfl) (fun _ H1 e1 => kk H1 e1) fun z => nomatch z
      | @al _ _ _ ts _ ta l2 l3 =>
        obtain ⟨ns, nl, nsum, hA⟩ := ta.parts
        refine s_if (b := false) (et_is (et_test (ev_name (t := "end") rfl hd)) rfl) (fun z => nomatch z) fun _ H1 e1 => ?_
        have hd1 := Dq.ex e1 _ _ hd
        refine n_next ?_
        dsimp only
        refine (et_test (ev_name (K := K) (p := p) (t := "all") rfl hd1)) H1 (Ex.refl _) _ fun H2 e2 => ?_
        refine iteT ?_
        refine ed_ix (K := K) (p := p) (j := 1) rfl (Dq.ex e2 _ _ hd1) rfl H2 (Ex.refl _) _ fun x G0 e3 q3 => ?_
        obtain ⟨a, ys, rfl, hS, hD⟩ := q3.seq
        refine ⟨a, rfl, ⟨_, hS⟩, fun D nD => ?_⟩
        have E0' : Ex H G0 := (e1.trans e2).trans e3
        have ysl : ys.length = ns.length := by rw [hD.len, nl]
        have y3 : ys.length ≤ 3 := by rw [hD.len]; exact l3
        refine lc_tup (K := K) (a := a) (xs := ys) (fun i G' => Ex G0 G' ∧ G' D = some (.lst (intsN (ns.take i)))) ⟨Ex.new nD, upd_same⟩ (fun i G' _ h => ex_t h.1 hS) ?_ ?_
        · rintro i x G1 hx ⟨e5, h1⟩
          have il : i < ys.length := (List.getElem?_eq_some_iff.mp hx).1
          obtain ⟨di, hdi⟩ : ∃ di, ts[i]? = some di := ⟨_, List.getElem?_eq_getElem (by rw [← hD.len]; exact il)⟩
          obtain ⟨x', hx', qx⟩ := hD.get hdi
          rw [hx] at hx'
          cases hx'
          obtain ⟨si, ni, zi, hni, hsz⟩ := hA i di hdi
          refine ⟨rfl, ?_⟩
          refine yes_of ?_
          rw [if_pos rfl]
          refine ⟨x, rfl, p, x, di, si, ni, zi, rfl, Dq.ex e5 _ _ qx, hsz, fun G2 e6 => ?_⟩
          refine ⟨_, e6 _ _ h1, small1000 (by unfold intsN; rw [List.length_map, List.length_take]; omega), Ex.mut (e5.trans e6) nD, ?_⟩
          rw [upd_same, List.take_succ, hni]
          unfold intsN
          rw [List.map_append]
          rfl
        · rintro G1 ⟨e5, h1⟩
          rw [ysl, List.take_length] at h1
          refine ⟨D, ns.map fun (n : Nat) => (n : Int), rfl, ?_, _, _, rfl, rfl, ?_⟩
          · rw [List.map_map]
            exact SqL.of h1
          · have es : (ns.map fun (n : Nat) => (n : Int)).sum = ((ns.sum : Nat) : Int) := by
              clear kk h1 hA ysl nD nsum nl
              induction ns with
              | nil => rfl
              | cons n ns ih =>
                rw [List.map_cons, List.sum_cons, List.sum_cons, ih, Int.natCast_add]
            rw [es, nsum]
            have := kk G1 (E0'.trans e5)
            rw [Int.natCast_add, Int.add_comm] at this
            exact this
      | @st _ _ _ q os _ fq ol ob ta =>
        obtain ⟨ns, nl, nsum, hA⟩ := ta.parts
        refine s_if (b := false) (et_is (et_test (ev_name (t := "end") rfl hd)) rfl) (fun z => nomatch z) fun _ H1 e1 => ?_
        have hd1 := Dq.ex e1 _ _ hd
        refine n_next ?_
        dsimp only
        refine (et_test (ev_name (K := K) (p := p) (t := "all") rfl hd1)) H1 (Ex.refl _) _ fun H2 e2 => ?_
        refine iteF ?_
        refine ed_ix (K := K) (p := p) (j := 2) rfl (Dq.ex e2 _ _ hd1) rfl H2 (Ex.refl _) _ fun x Ga e3 q3 => ?_
        obtain ⟨a, xs, rfl, hS, hX⟩ := q3.seq
        refine ⟨a, rfl, ⟨_, hS⟩, fun D2 nD2 => ?_⟩
        refine lc_tup (K := K) (a := a) (xs := xs) (fun j G => Ex Ga G ∧ ∃ ys, G D2 = some (.lst ys) ∧ ys.length = j ∧ DqAll K p Ga ys ((os.take j).map sndD)) ⟨Ex.new nD2, [], upd_same, rfl, .nil⟩ (fun i G _ h => ex_t h.1 hS) ?_ ?_
        · rintro i y G hy ⟨ex, ys, hys, hyl, hq2⟩
          have il : i < xs.length := (List.getElem?_eq_some_iff.mp hy).1
          have iol : i < os.length := by rw [← hX.len]; exact il
          have eo := List.getElem?_eq_getElem iol
          obtain ⟨y', hy', qy⟩ := hX.get eo
          rw [hy] at hy'
          cases hy'
          obtain ⟨wd, dd, ed⟩ := outB_two (ob _ (List.getElem_mem iol))
          rw [ed] at qy eo
          refine ⟨rfl, ?_⟩
          refine yes_of ?_
          rw [if_pos rfl]
          obtain ⟨b, zs, rfl, hS2, hA2⟩ := qy.seq
          obtain ⟨z, ez, qz⟩ := hA2.get (j := 1) (dj := dd) rfl
          refine ⟨_, rfl, b, zs, 1, z, rfl, rfl, ex_t ex hS2, atI_nat (j := 1) ez, ?_⟩
          refine ⟨_, hys, small1000 (by omega), Ex.mut ex nD2, ys ++ [z], upd_same, by simp [hyl], ?_⟩
          rw [List.take_succ, eo, List.map_append]
          exact hq2.append (.cons qz .nil)
        rintro G0 ⟨ex, ys, hys, hyl, hq2⟩
        rw [hX.len, List.take_length] at hq2
        have hD := DqAll.ex ex _ _ hq2
        refine ⟨D2, rfl, ⟨_, SqL.of hys⟩, fun D nD => ?_⟩
        have E0' : Ex H G0 := ((e1.trans e2).trans e3).trans ex
        have ysl : ys.length = ns.length := by rw [hD.len, nl]
        have y3 : ys.length ≤ 3 := by rw [hD.len, List.length_map]; exact ol
        refine lc_list (K := K) (a := D2) (xs := ys) (fun i G' => Ex G0 G' ∧ G' D = some (.lst (intsN (ns.take i)))) ⟨Ex.new nD, upd_same⟩ (fun i G' _ h => SqL.of (h.1 _ _ hys)) ?_ ?_
        · rintro i x G1 hx ⟨e5, h1⟩
          have il : i < ys.length := (List.getElem?_eq_some_iff.mp hx).1
          obtain ⟨di, hdi⟩ : ∃ di, (os.map sndD)[i]? = some di := ⟨_, List.getElem?_eq_getElem (by rw [← hD.len]; exact il)⟩
          obtain ⟨x', hx', qx⟩ := hD.get hdi
          rw [hx] at hx'
          cases hx'
          obtain ⟨si, ni, zi, hni, hsz⟩ := hA i di hdi
          refine ⟨rfl, ?_⟩
          refine yes_of ?_
          rw [if_pos rfl]
          refine ⟨x, rfl, p, x, di, si, ni, zi, rfl, Dq.ex e5 _ _ qx, hsz, fun G2 e6 => ?_⟩
          refine ⟨_, e6 _ _ h1, small1000 (by unfold intsN; rw [List.length_map, List.length_take]; omega), Ex.mut (e5.trans e6) nD, ?_⟩
          rw [upd_same, List.take_succ, hni]
          unfold intsN
          rw [List.map_append]
          rfl
        · rintro G1 ⟨e5, h1⟩
          rw [ysl, List.take_length] at h1
          refine ⟨D, ns.map fun (n : Nat) => (n : Int), rfl, ?_, _, _, rfl, rfl, ?_⟩
          · rw [List.map_map]
            exact SqL.of h1
          · have es : (ns.map fun (n : Nat) => (n : Int)).sum = ((ns.sum : Nat) : Int) := by
              clear kk h1 hA ysl nD nsum nl
              induction ns with
              | nil => rfl
              | cons n ns ih =>
                rw [List.map_cons, List.sum_cons, List.sum_cons, ih, Int.natCast_add]
            rw [es, nsum]
            have := kk G1 (E0'.trans e5)
            rw [Int.natCast_add, Int.add_comm] at this
            exact this
end
/-! ### the law's own steps -/
theorem tma_le {k : Nat} (f : ∀ {d : PyData} {S N n : Nat}, Tm k d S N n → S ≤ N) {S N : Nat} {ds : List PyData} {ns : List Nat} (h : TmA k ds S N ns) : S ≤ N := by
  induction ds generalizing S N ns with
  | nil => cases h; exact Nat.le_refl _
  | cons d ds ih =>
    cases h with
    | cons h hs =>
      have := f h
      have := ih hs
      omega
theorem tm_le : ∀ (k : Nat) {d : PyData} {S N n : Nat}, Tm k d S N n → S ≤ N
  | 0, _, _, _, _, h => by cases h
  | k + 1, _, _, _, _, h => by
    cases h with
    | e => exact Nat.zero_le _
    | al ta _ _ => exact Nat.le_succ_of_le (tma_le (tm_le k) ta)
    | st _ _ _ ta => exact Nat.succ_le_succ (tma_le (tm_le k) ta)
theorem TmA.stp {k S N : Nat} {ds : List PyData} {ns : List Nat} (h : TmA k ds S N ns) : ∃ Ss : List Nat, ds.length = Ss.length ∧ Ss.sum = S ∧ ∀ (i : Nat) (d : PyData), ds[i]? = some d → ∃ s m n, Ss[i]? = some s ∧ Tm k d s m n ∧ m ≤ N := by
  induction ds generalizing S N ns with
  | nil =>
    cases h
    exact ⟨[], rfl, rfl, fun i d e => by simp at e⟩
  | cons d ds ih =>
    cases h with
    | @cons _ s m _ m' n _ _ _ h hs =>
      obtain ⟨Ss, h1, h2, h3⟩ := ih hs
      refine ⟨s :: Ss, congrArg Nat.succ h1, by rw [List.sum_cons, h2], fun i e he => ?_⟩
      cases i with
      | zero =>
        simp only [List.getElem?_cons_zero, Option.some.injEq] at he
        subst he
        exact ⟨s, m, n, rfl, h, by omega⟩
      | succ i =>
        simp only [List.getElem?_cons_succ] at he ⊢
        obtain ⟨a, b, c, q1, q2, q3⟩ := h3 i e he
        exact ⟨a, b, c, q1, q2, by omega⟩
theorem sum_take_le : ∀ (ns : List Nat) (i : Nat), (ns.take i).sum ≤ ns.sum
  | [], i => by simp
  | n :: ns, 0 => by simp
  | n :: ns, i + 1 => by
    rw [List.take_succ_cons, List.sum_cons, List.sum_cons]
    have := sum_take_le ns i
    omega
section
variable {P : Program} {w : World} {K : PySem.W.Frag} {mg : Str → Option Value} {base : Heap}
def spSteps (K : PySem.W.Frag) (k : Nat) : Sp := fun vs H Q _ => ∃ (p : Addr) (v : V) (d : PyData) (S N n : Nat), vs = [v] ∧ Dq K p H v d ∧ Tm k d S N n ∧ N ≤ 400 ∧ ∀ l zs H', Ex H H' → H l = none → H' l = some (.lst zs) → zs.length = S → Q (.ref l) H'
theorem ok__law_steps (T : Txt K mg) : ∀ k, FnOk P w K mg base CX0 (1 + k) T.d__law_steps.a T.d__law_steps.fd ["_law_term_here"] (spSteps K k) := by
  intro k
  induction k with
  | zero =>
    refine (T.d__law_steps.F.ok (k := 0) sc__law_steps (fun vs H Q E h => ?_) fun cdv A outer s H vs Q E hr h => ?_)
    · obtain ⟨p, v, d, S, N, n, rfl, _⟩ := h
      rfl
    · obtain ⟨p, v, d, S, N, n, rfl, _, hz, _⟩ := h
      cases hz
  | succ k ih =>
    refine (T.d__law_steps.F.ok (k := 1 + k) sc__law_steps (fun vs H Q E h => ?_) fun cdv A outer s H vs Q E hr h => ?_)
    · obtain ⟨p, v, d, S, N, n, rfl, _⟩ := h
      rfl
    · obtain ⟨p, v, d, S, N, n, rfl, hd, hz, hN, kk⟩ := h
      refine ⟨_, (pss_cons (ps_if (pt_cmpR op_eq (pe_ix ix_tup (pv 0) pe_int (fun _ _ => rfl)) pe_str (nomark _)) (pss_one (ps_ret (pe_lst pa_nil))) pss_nil)
      (pss_cons (ps_set (i := 1) sc__law_steps.nd rfl (Or.inl rfl) (pe_ifExp (pt_cmpR op_eq (pe_ix ix_tup (pv 0) pe_int (fun _ _ => rfl)) pe_str (nomark _)) (pe_lst (pa_cons (pv 0) pa_nil)) (pe_lst pa_nil)))
      (pss_cons (ps_for PassesOwn.never rfl (pi_if (pt_cmpR op_eq (pe_ix ix_tup (pv 0) pe_int (fun _ _ => rfl)) pe_str (nomark _)) (pi_tup (pe_ix ix_tup (pv 0) pe_int (fun _ _ => rfl))) (pi_list (pe_lc (own := [("_law_one", 2)]) (g := gName 2) (te := tOp (rIxT K) (tVar 2) (tC (.int 1))) (tt := tYes) rfl sc__law_steps.nd (pi_tup (pe_ix ix_tup (pv 0) pe_int (fun _ _ => rfl))) (blkOk_by (own := [("_law_one", 2)]) (N := n__law_steps) (sc := defScope s__law_steps) (by decide +kernel)) (fun _ _ _ _ _ => pg_name (i := 2) sc__law_steps.nd rfl (Or.inl rfl)) (fun _ _ _ _ _ => pts_nil) (fun _ _ _ _ _ => (pe_ix ix_tup (pv 2) pe_int (fun _ _ => rfl)))))) (pg_name (i := 2) sc__law_steps.nd rfl (Or.inl rfl)) (pss_one (ps_set (i := 1) sc__law_steps.nd rfl (Or.inl rfl) (pe_op op_cat (pv 1) (pe_call ih (hr.mono (by omega)) (by rfl) T.d__law_steps.g T.d__law_steps.F.kp T.d__law_steps.b .nil pass0 (pa_cons (pv 2) pa_nil))))))
      (pss_one (ps_ret (pv 1)))))), ?_⟩
      cases hz with
      | e =>
        refine s_if (b := true) (et_is (et_test (ev_name (t := "end") rfl hd)) rfl) (fun _ H1 e1 => ?_) fun z => nomatch z
        exact ⟨by show 0 ≤ sizeLine; decide, fun l fl => kk l [] _ (e1.trans (Ex.new fl)) (fresh_back e1 fl) upd_same rfl⟩
      | @al _ S N ts _ ta l2 l3 =>
        have SN := tma_le (tm_le k) ta
        obtain ⟨ns, nl, nsum, hA⟩ := ta.stp
        refine s_if (b := false) (et_is (et_test (ev_name (t := "end") rfl hd)) rfl) (fun z => nomatch z) fun _ H1 e1 => ?_
        have hd1 := Dq.ex e1 _ _ hd
        refine n_next ?_
        dsimp only
        refine n_seq ?_
        refine (et_test (ev_name (K := K) (p := p) (t := "step") rfl hd1)) H1 (Ex.refl _) _ fun H2 e2 => ?_
        refine iteF ?_
        refine ⟨by show 0 ≤ sizeLine; decide, fun l0 fl0 => ?_⟩
        have x0 := Ex.new (o := .lst []) fl0
        have fr00 : H l0 = none := fresh_back (e1.trans e2) fl0
        dsimp only
        refine n_seq ?_
        have hd3 := Dq.ex (e2.trans x0) _ _ hd1
        refine (et_test (ev_name (K := K) (p := p) (t := "all") rfl hd3)) _ (Ex.refl _) _ fun H4 e4 => ?_
        refine iteT ?_
        refine ed_ix (K := K) (p := p) (j := 1) rfl (Dq.ex e4 _ _ hd3) rfl H4 (Ex.refl _) _ fun x G0 e5 q3 => ?_
        obtain ⟨a, ys, rfl, hS, hD⟩ := q3.seq
        have E0' : Ex H G0 := (((e1.trans e2).trans x0).trans e4).trans e5
        have hl0 : G0 l0 = some (.lst []) := e5 _ _ (e4 _ _ upd_same)
        have fr0 := fr00
        refine ⟨a, rfl, ⟨_, hS⟩, ?_⟩
        refine for_tup (K := K) (a := a) (xs := ys) (fun i σ G => Ex G0 G ∧ ∃ (l : Addr) (zs : List V) (x : Option V), σ = [some v, some (.ref l), x] ∧ H l = none ∧ G l = some (.lst zs) ∧ zs.length = 0 + (ns.take i).sum)
          ⟨Ex.refl _, l0, _, _, rfl, fr0, hl0, rfl⟩ (fun i σ G _ h => ex_t h.1 hS) ?_ ?_
        · rintro i x σ G hx ⟨ex, l, zs, y, rfl, fr, hlG, hlen⟩
          have il : i < ys.length := (List.getElem?_eq_some_iff.mp hx).1
          obtain ⟨di, hdi⟩ : ∃ di, ts[i]? = some di := ⟨_, List.getElem?_eq_getElem (by rw [← hD.len]; exact il)⟩
          obtain ⟨x', hx', qx⟩ := hD.get hdi
          rw [hx] at hx'
          cases hx'
          obtain ⟨si, mi, zi, hsi, hti, hmi⟩ := hA i di hdi
          have sle := tm_le k hti
          have tl := sum_take_le ns i
          refine n_name ?_
          dsimp only
          refine ⟨_, rfl, x, rfl, p, x, di, si, mi, zi, rfl, Dq.ex ex _ _ qx, hti, by omega, fun l2 zs2 G2 e2 f2 h2 hz2 => ?_⟩
          refine ⟨l, l2, zs, zs2, rfl, rfl, e2 _ _ hlG, h2, Nat.le_of_lt (small1000 (by omega)), fun l3 f3 => ?_⟩
          have x3 := Ex.new (o := .lst (zs ++ zs2)) f3
          refine ⟨(ex.trans e2).trans x3, l3, zs ++ zs2, some x, rfl, fresh_back (E0'.trans (ex.trans e2)) f3, upd_same, ?_⟩
          rw [List.length_append, hlen, hz2, List.take_succ, hsi]
          first | (simp; done) | (simp; omega)
        · rintro σ G ⟨ex, l, zs, y, rfl, fr, hlG, hlen⟩
          refine ⟨_, rfl, kk l zs G (E0'.trans ex) fr hlG ?_⟩
          rw [hlen, hD.len, nl, List.take_length]
          omega
      | @st _ S N q os _ fq ol ob ta =>
        have SN := tma_le (tm_le k) ta
        obtain ⟨ns, nl, nsum, hA⟩ := ta.stp
        refine s_if (b := false) (et_is (et_test (ev_name (t := "end") rfl hd)) rfl) (fun z => nomatch z) fun _ H1 e1 => ?_
        have hd1 := Dq.ex e1 _ _ hd
        refine n_next ?_
        dsimp only
        refine n_seq ?_
        refine (et_test (ev_name (K := K) (p := p) (t := "step") rfl hd1)) H1 (Ex.refl _) _ fun H2' e2' => ?_
        refine iteT ?_
        refine ⟨v, rfl, by show 1 ≤ sizeLine; decide, fun l0 fl0 => ?_⟩
        have x0 := Ex.new (o := .lst [v]) fl0
        have fr00 : H l0 = none := fresh_back (e1.trans e2') fl0
        dsimp only
        refine n_seq ?_
        have hd3 := Dq.ex (e2'.trans x0) _ _ hd1
        refine (et_test (ev_name (K := K) (p := p) (t := "all") rfl hd3)) _ (Ex.refl _) _ fun H2 e2 => ?_
        refine iteF ?_
        refine ed_ix (K := K) (p := p) (j := 2) rfl (Dq.ex e2 _ _ hd3) rfl H2 (Ex.refl _) _ fun x Ga e3 q3 => ?_
        obtain ⟨a, xs, rfl, hS, hX⟩ := q3.seq
        refine ⟨a, rfl, ⟨_, hS⟩, fun D2 nD2 => ?_⟩
        refine lc_tup (K := K) (a := a) (xs := xs) (fun j G => Ex Ga G ∧ ∃ ys, G D2 = some (.lst ys) ∧ ys.length = j ∧ DqAll K p Ga ys ((os.take j).map sndD)) ⟨Ex.new nD2, [], upd_same, rfl, .nil⟩ (fun i G _ h => ex_t h.1 hS) ?_ ?_
        · rintro i y G hy ⟨ex, ys, hys, hyl, hq2⟩
          have il : i < xs.length := (List.getElem?_eq_some_iff.mp hy).1
          have iol : i < os.length := by rw [← hX.len]; exact il
          have eo := List.getElem?_eq_getElem iol
          obtain ⟨y', hy', qy⟩ := hX.get eo
          rw [hy] at hy'
          cases hy'
          obtain ⟨wd, dd, ed⟩ := outB_two (ob _ (List.getElem_mem iol))
          rw [ed] at qy eo
          refine ⟨rfl, ?_⟩
          refine yes_of ?_
          rw [if_pos rfl]
          obtain ⟨b, zs, rfl, hS2, hA2⟩ := qy.seq
          obtain ⟨z, ez, qz⟩ := hA2.get (j := 1) (dj := dd) rfl
          refine ⟨_, rfl, b, zs, 1, z, rfl, rfl, ex_t ex hS2, atI_nat (j := 1) ez, ?_⟩
          refine ⟨_, hys, small1000 (by omega), Ex.mut ex nD2, ys ++ [z], upd_same, by simp [hyl], ?_⟩
          rw [List.take_succ, eo, List.map_append]
          exact hq2.append (.cons qz .nil)
        rintro G0 ⟨ex, ys, hys, hyl, hq2⟩
        rw [hX.len, List.take_length] at hq2
        have hD := DqAll.ex ex _ _ hq2
        have E0' : Ex H G0 := ((((e1.trans e2').trans x0).trans e2).trans e3).trans ex
        have hl0 : G0 l0 = some (.lst [v]) := ex _ _ (e3 _ _ (e2 _ _ upd_same))
        have fr0 := fr00
        have y3 : ys.length ≤ 3 := by rw [hD.len, List.length_map]; exact ol
        clear ex
        refine ⟨D2, rfl, ⟨_, SqL.of hys⟩, ?_⟩
        refine for_list (K := K) (a := D2) (xs := ys) (fun i σ G => Ex G0 G ∧ ∃ (l : Addr) (zs : List V) (x : Option V), σ = [some v, some (.ref l), x] ∧ H l = none ∧ G l = some (.lst zs) ∧ zs.length = 1 + (ns.take i).sum)
          ⟨Ex.refl _, l0, _, _, rfl, fr0, hl0, rfl⟩ (fun i σ G _ h => SqL.of (h.1 _ _ hys)) ?_ ?_
        · rintro i x σ G hx ⟨ex, l, zs, y, rfl, fr, hlG, hlen⟩
          have il : i < ys.length := (List.getElem?_eq_some_iff.mp hx).1
          obtain ⟨di, hdi⟩ : ∃ di, (os.map sndD)[i]? = some di := ⟨_, List.getElem?_eq_getElem (by rw [← hD.len]; exact il)⟩
          obtain ⟨x', hx', qx⟩ := hD.get hdi
          rw [hx] at hx'
          cases hx'
          obtain ⟨si, mi, zi, hsi, hti, hmi⟩ := hA i di hdi
          have sle := tm_le k hti
          have tl := sum_take_le ns i
          refine n_name ?_
          dsimp only
          refine ⟨_, rfl, x, rfl, p, x, di, si, mi, zi, rfl, Dq.ex ex _ _ qx, hti, by omega, fun l2 zs2 G2 e2 f2 h2 hz2 => ?_⟩
          refine ⟨l, l2, zs, zs2, rfl, rfl, e2 _ _ hlG, h2, Nat.le_of_lt (small1000 (by omega)), fun l3 f3 => ?_⟩
          have x3 := Ex.new (o := .lst (zs ++ zs2)) f3
          refine ⟨(ex.trans e2).trans x3, l3, zs ++ zs2, some x, rfl, fresh_back (E0'.trans (ex.trans e2)) f3, upd_same, ?_⟩
          rw [List.length_append, hlen, hz2, List.take_succ, hsi]
          first | (simp; done) | (simp; omega)
        · rintro σ G ⟨ex, l, zs, y, rfl, fr, hlG, hlen⟩
          refine ⟨_, rfl, kk l zs G (E0'.trans ex) fr hlG ?_⟩
          rw [hlen, hD.len, nl, List.take_length]
          omega
end
/-! ### the law's own size of a mix -/
section
variable {P : Program} {w : World} {K : PySem.W.Frag} {mg : Str → Option Value} {base : Heap}
def spLSzM (K : PySem.W.Frag) : Sp := fun vs H Q _ => ∃ (p : Addr) (v : V) (ds : List PyData) (ns : List Nat), vs = [v] ∧ Dq K p H v (.tuple ds) ∧ SzA 5 ds ns ∧ SmallP ns ∧ ∀ H', Ex H H' → Q (.int (prodN ns : Nat)) H'
theorem ok__law_size_of (T : Txt K mg) : FnOk P w K mg base CX0 7 T.d__law_size_of.a T.d__law_size_of.fd ["_law_mix_here"] (spLSzM K) := by
  refine T.d__law_size_of.F.ok sc__law_size_of (fun vs H Q E h => ?_) (fun cdv A outer s H vs Q E hr h => ?_)
  · obtain ⟨p, v, ds, ns, rfl, _⟩ := h
    rfl
  · obtain ⟨p, v, ds, ns, rfl, hd, hA, hB, k⟩ := h
    refine ⟨_, (pss_cons (ps_set (i := 1) sc__law_size_of.nd rfl (Or.inl rfl) pe_int)
      (pss_cons (ps_for PassesOwn.never rfl (pi_tup (pv 0)) (pg_name (i := 2) sc__law_size_of.nd rfl (Or.inl rfl)) (pss_one (ps_set (i := 1) sc__law_size_of.nd rfl (Or.inl rfl) (pe_op op_mulW (pv 1) (pe_call (ok__law_size T 5) (hr.mono (by decide)) (by rfl) T.d__law_size.g T.d__law_size.F.kp T.d__law_size.b .nil pass0 (pa_cons (pv 2) pa_nil))))))
      (pss_one (ps_ret (pv 1))))), ?_⟩
    obtain ⟨a, xs, rfl, hS, hD⟩ := hd.seq
    refine n_seq (n_c ?_)
    dsimp only
    refine n_seq ?_
    refine ⟨_, rfl, a, rfl, ⟨_, hS⟩, ?_⟩
    refine for_tup (K := K) (a := a) (xs := xs) (fun i σ G => Ex H G ∧ ∃ x : Option V, σ = [some (.ref a), some (.int (prodN (ns.take i) : Nat)), x]) ⟨Ex.refl _, none, rfl⟩ (fun i σ G _ ⟨e, _⟩ => ex_t e hS) ?_ ?_
    · rintro i x σ G hx ⟨ex, y, rfl⟩
      have il : i < xs.length := (List.getElem?_eq_some_iff.mp hx).1
      obtain ⟨di, hdi⟩ : ∃ di, ds[i]? = some di := ⟨_, List.getElem?_eq_getElem (by rw [← hD.len]; exact il)⟩
      obtain ⟨x', hx', qx⟩ := hD.get hdi
      rw [hx] at hx'
      cases hx'
      obtain ⟨n, hn, hsz⟩ := hA.get hdi
      refine n_name ?_
      dsimp only
      have b1 := (hB i).1
      have b2 := (hB i).2 n (List.mem_of_getElem? hn)
      refine ⟨_, rfl, x, rfl, p, x, di, n, rfl, Dq.ex ex _ _ qx, hsz, fun G2 e2 => ?_⟩
      refine ⟨_, _, rfl, rfl, mulW (a := 1000) (b := 1000) (by omega) (by omega) (by decide), ex.trans e2, some x, ?_⟩
      rw [List.take_succ, hn]
      show _ = [_, some (V.int ((prodN (ns.take i ++ [n]) : Nat) : Int)), _]
      rw [prodN_snoc, Int.natCast_mul]
      rfl
    · rintro σ G ⟨ex, y, rfl⟩
      have e : ns.take xs.length = ns := by rw [hD.len, hA.len, List.take_length]
      rw [e]
      exact ⟨_, rfl, k G ex⟩
end
/-! ### drawn terms are terms: how measure walks over them -/
theorem tma_up {k : Nat} (f : ∀ {d : PyData} {S N n : Nat}, Tm k d S N n → Tm (k + 1) d S N n) {S N : Nat} {ds : List PyData} {ns : List Nat} (h : TmA k ds S N ns) : TmA (k + 1) ds S N ns := by
  induction ds generalizing S N ns with
  | nil => cases h; exact .nil
  | cons d ds ih =>
    cases h with
    | cons h hs => exact .cons (f h) (ih hs)
theorem tm_up : ∀ (k : Nat) {d : PyData} {S N n : Nat}, Tm k d S N n → Tm (k + 1) d S N n
  | 0, _, _, _, _, h => by cases h
  | k + 1, _, _, _, _, h => by
    cases h with
    | e => exact .e
    | al ta l2 l3 => exact .al (tma_up (tm_up k) ta) l2 l3
    | st fq ol ob ta => exact .st fq ol ob (tma_up (tm_up k) ta)
theorem TmA.app {k S N S' N' : Nat} {ds es : List PyData} {ns ms : List Nat} (h : TmA k ds S N ns) (g : TmA k es S' N' ms) : TmA k (ds ++ es) (S + S') (N + N') (ns ++ ms) := by
  induction ds generalizing S N ns with
  | nil =>
    cases h
    simpa using g
  | cons d ds ih =>
    cases h with
    | cons h hs =>
      have := TmA.cons h (ih hs)
      rw [← Nat.add_assoc, ← Nat.add_assoc] at this
      exact this
theorem TmA.last {k S N : Nat} {st : List PyData} {d : PyData} {ns : List Nat} (h : TmA k (st ++ [d]) S N ns) : ∃ S1 N1 ms S2 N2 n, TmA k st S1 N1 ms ∧ Tm k d S2 N2 n ∧ S = S1 + S2 ∧ N = N1 + N2 := by
  induction st generalizing S N ns with
  | nil =>
    cases h with
    | cons h hs =>
      cases hs
      exact ⟨0, 0, [], _, _, _, .nil, h, by omega, by omega⟩
  | cons e st ih =>
    cases h with
    | cons h hs =>
      obtain ⟨S1, N1, ms, S2, N2, n, h1, h2, rfl, rfl⟩ := ih hs
      exact ⟨_, _, _, S2, N2, n, .cons h h1, h2, by omega, by omega⟩
theorem Tm.kids {k : Nat} {d : PyData} {S N n : Nat} (h : Tm k d S N n) : headB d = true ∧ Named d ∧ (kidsD d).length ≤ 3 ∧ ∃ S' N' ns, S = isStD d + S' ∧ N = N' + 1 ∧ TmA k (kidsD d) S' N' ns := by
  cases h with
  | e => exact ⟨by decide +kernel, .inr (.inr ⟨_, _, rfl, .inr (.inr ⟨by decide +kernel, by decide +kernel⟩)⟩), Nat.zero_le _, 0, 0, [], rfl, rfl, .nil⟩
  | @al k S N ts ns ta l2 l3 =>
    refine ⟨?_, .inr (.inr ⟨_, _, rfl, .inr (.inl rfl)⟩), l3, S, N, ns, by show S = 0 + S; omega, rfl, tma_up (tm_up k) ta⟩
    show (decide (2 ≤ ts.length) && decide (ts.length ≤ 3)) = true
    rw [decide_eq_true l2, decide_eq_true l3]
    rfl
  | @st k S N q os ns fq ol ob ta =>
    refine ⟨?_, .inr (.inr ⟨_, _, rfl, .inl rfl⟩), by show (os.map sndD).length ≤ 3; rw [List.length_map]; exact ol, S, N, ns, by show S + 1 = 1 + S; omega, rfl, tma_up (tm_up k) ta⟩
    show (frB q && (decide (os.length ≤ 3) && os.all outB)) = true
    rw [fq, decide_eq_true ol, List.all_eq_true.mpr ob]
    rfl
theorem run_of {k : Nat} : ∀ (N : Nat) {st : List PyData} {S s n : Nat} {ns : List Nat}, TmA k st S N ns → s + S ≤ 16 → n + N ≤ 48 → Run st s n (some (s + S, n + N)) := by
  intro N
  induction N with
  | zero =>
    intro st S s n ns h h1 h2
    rcases List.eq_nil_or_concat st with rfl | ⟨st', d, rfl⟩
    · cases h
      exact .done
    · rw [List.concat_eq_append] at h
      obtain ⟨S1, N1, ms, S2, N2, m, g1, g2, rfl, e⟩ := h.last
      obtain ⟨_, _, _, S', N', _, _, e2, _⟩ := g2.kids
      omega
  | succ N ih =>
    intro st S s n ns h h1 h2
    rcases List.eq_nil_or_concat st with rfl | ⟨st', d, rfl⟩
    · cases h
    · rw [List.concat_eq_append] at h ⊢
      obtain ⟨S1, N1, ms, S2, N2, m, g1, g2, rfl, e⟩ := h.last
      obtain ⟨hb, hn, hl, S', N', ns', e1, e2, ta⟩ := g2.kids
      have e3 : N = N1 + N' := by omega
      have h3 := g1.app ta
      rw [← e3] at h3
      have := ih (s := s + isStD d) (n := n + 1) h3 (by omega) (by omega)
      have q1 : s + isStD d + (S1 + S') = s + (S1 + S2) := by omega
      have q2 : n + 1 + N = n + (N + 1) := by omega
      rw [q1, q2] at this
      exact .go hn hb (by omega) (by omega) hl this
theorem run_tm {k : Nat} {d : PyData} {S N n : Nat} (h : Tm k d S N n) (h1 : S ≤ 16) (h2 : N ≤ 48) : Run [d] 0 0 (some (S, N)) := by
  have := run_of (k := k) (N + 0) (st := [d]) (s := 0) (n := 0) (TmA.cons h .nil) (by omega) (by omega)
  simpa using this
/-! ### drawn terms: shown without harm, compared without harm -/
mutual
theorem noL_lay : ∀ d : PyData, noL d = true → d.canLay0 = true ∧ d.hasDict = false
  | .none, _ => ⟨rfl, rfl⟩
  | .bool _, _ => ⟨rfl, rfl⟩
  | .int _, _ => ⟨rfl, rfl⟩
  | .str x, h => by
    have h' := of_decide_eq_true (show decide (x = "end" ∨ x = "all" ∨ x = "step") = true from by simpa [noL, strS] using h)
    rcases h' with rfl | rfl | rfl <;> exact ⟨by decide +kernel, rfl⟩
  | .list _, h => by simp [noL] at h
  | .dict _, h => by simp [noL] at h
  | .tuple xs, h => by
    have := noLA_lay xs (by simpa [noL] using h)
    exact ⟨by simpa [PyData.canLay0] using this.1, by simpa [PyData.hasDict] using this.2⟩
theorem noLA_lay : ∀ ds : List PyData, noLA ds = true → PyData.canLayAll0 ds = true ∧ PyData.hasDictAll ds = false
  | [], _ => ⟨rfl, rfl⟩
  | d :: ds, h => by
    simp only [noLA, Bool.and_eq_true] at h
    have h1 := noL_lay d h.1
    have h2 := noLA_lay ds h.2
    simp [PyData.canLayAll0, PyData.hasDictAll, h1.1, h1.2, h2.1, h2.2]
end
theorem noLA_mem : ∀ {ds : List PyData} {d : PyData}, noLA ds = true → d ∈ ds → noL d = true
  | e :: ds, d, h, hd => by
    simp only [noLA, Bool.and_eq_true] at h
    rcases List.mem_cons.mp hd with rfl | hd
    · exact h.1
    · exact noLA_mem h.2 hd
def cc : Nat → Nat
  | 0 => 0
  | k + 1 => 1000 + 3 * cc k
theorem nca_of {c e : Nat} : ∀ {ds : List PyData}, (∀ d ∈ ds, Nc c e d) → NcA (ds.length * (c + 2)) e ds
  | [], _ => by simpa using nca_nil
  | d :: ds, h => by
    have h1 := nca_cons (h d List.mem_cons_self) (nca_of fun x hx => h x (List.mem_cons_of_mem _ hx))
    refine ⟨h1.sh, h1.dp, ?_⟩
    have := h1.co
    rw [List.length_cons, Nat.succ_mul]
    omega
theorem noL_fr {q : PyData} (h : frB q = true) (hn : noL q = true) : Nc 140 1 q := by
  have e := frB_iff h
  rw [e] at hn ⊢
  simp only [frd, noL, noLA, Bool.and_true, Bool.and_eq_true, decide_eq_true_eq] at hn
  exact nc_pair hn.1 hn.2 (by decide) (by decide)
theorem TmA.mem {k S N : Nat} {ds : List PyData} {ns : List Nat} (h : TmA k ds S N ns) : ∀ d ∈ ds, ∃ S' N' n, Tm k d S' N' n := by
  induction ds generalizing S N ns with
  | nil => intro d hd; cases hd
  | cons e ds ih =>
    cases h with
    | cons h hs =>
      intro d hd
      rcases List.mem_cons.mp hd with rfl | hd
      · exact ⟨_, _, _, h⟩
      · exact ih hs d hd
theorem tm_nc : ∀ (k : Nat) {d : PyData} {S N n : Nat}, Tm k d S N n → noL d = true → Nc (cc k) (4 * k) d
  | 0, _, _, _, _, h, _ => by cases h
  | k + 1, _, _, _, _, h, hn => by
    have ck : cc (k + 1) = 1000 + 3 * cc k := rfl
    cases h with
    | e => exact (nc_tup (nca_cons (nc_str (c := 5) (by decide +kernel)) nca_nil)).mono (by omega) (by omega)
    | @al _ S N ts ns ta l2 l3 =>
      have h2 : noLA ts = true := by
        simp only [noL, noLA, Bool.and_eq_true] at hn
        exact hn.2.1
      have h3 := nca_of (c := cc k) (e := 4 * k) fun t ht => by
        obtain ⟨_, _, _, q⟩ := ta.mem t ht
        exact tm_nc k q (noLA_mem h2 ht)
      have h4 : ts.length * (cc k + 2) ≤ 3 * (cc k + 2) := Nat.mul_le_mul_right _ l3
      exact (nc_tup (nca_cons ((nc_str (x := "all") (c := 5) (by decide +kernel)).mono (Nat.le_refl _) (by omega)) (nca_cons (nc_tup h3) nca_nil))).mono (by omega) (by omega)
    | @st _ S N q os ns fq ol ob ta =>
      simp only [noL, noLA, Bool.and_eq_true, Bool.and_true] at hn
      have h3 := nca_of (c := cc k + 148) (e := 4 * k + 2) (ds := os) fun o ho => by
        have hb := ob o ho
        have hn2 := noLA_mem hn.2.2 ho
        unfold outB at hb
        split at hb
        · rename_i w x
          simp only [posB, Bool.and_eq_true] at hb
          simp only [noL, noLA, Bool.and_eq_true, Bool.and_true] at hn2
          obtain ⟨_, _, _, qx⟩ := ta.mem x (List.mem_map.mpr ⟨_, ho, rfl⟩)
          have n1 := (noL_fr hb.1 hn2.1).mono (Nat.le_refl _) (show 1 ≤ 4 * k + 1 by omega)
          have n2 := (tm_nc k qx hn2.2).mono (Nat.le_refl _) (show 4 * k ≤ 4 * k + 1 by omega)
          exact (nc_tup (nca_cons n1 (nca_cons n2 nca_nil))).mono (by omega) (by omega)
        · cases hb
      have h4 : os.length * (cc k + 148 + 2) ≤ 3 * (cc k + 148 + 2) := Nat.mul_le_mul_right _ ol
      exact (nc_tup (nca_cons ((nc_str (x := "step") (c := 6) (by decide +kernel)).mono (Nat.le_refl _) (by omega)) (nca_cons ((noL_fr fq hn.2.1).mono (Nat.le_refl _) (by omega)) (nca_cons (nc_tup h3) nca_nil)))).mono (by omega) (by omega)
/-! ### the law's own mixes -/
/-- a mix of drawn terms: its terms, their steps, parts, sizes -/
structure DMix (ds : List PyData) (ns : List Nat) : Prop where
  ne : 1 ≤ ds.length
  four : ds.length ≤ 4
  tm : ∃ S N, TmA 5 ds S N ns ∧ S ≤ 16 ∧ N ≤ 48
  nl : noLA ds = true
theorem mixw_of {k : Nat} : ∀ {ds : List PyData} {S N : Nat} {ns : List Nat}, TmA k ds S N ns → ∀ (s n : Nat), s + S ≤ 16 → n + N ≤ 48 → MixW ds s n true
  | [], _, _, _, h, s, n, h1, h2 => by
    cases h
    have := MixW.done (s := s) (n := n)
    rwa [decide_eq_true (by omega), decide_eq_true (by omega)] at this
  | d :: ds, _, _, _, h, s, n, h1, h2 => by
    cases h with
    | @cons _ S1 N1 S2 N2 m _ _ ms h hs => exact .go (run_tm h (by omega) (by omega)) (mixw_of hs (s + S1) (n + N1) (by omega) (by omega))
theorem sz_up {k : Nat} : ∀ {ds : List PyData} {ns : List Nat}, (∀ {d : PyData} {n : Nat}, Sz k d n → Sz (k + 1) d n) → SzA k ds ns → SzA (k + 1) ds ns
  | [], _, _, h => by cases h; exact .nil
  | d :: ds, _, f, h => by
    cases h with
    | cons h hs => exact .cons (f h) (sz_up f hs)
theorem sz_step : ∀ (k : Nat) {d : PyData} {n : Nat}, Sz k d n → Sz (k + 1) d n
  | 0, _, _, h => by cases h
  | k + 1, _, _, h => by
    cases h with
    | mk hb hA hB => exact .mk hb (sz_up (sz_step k) hA) hB
theorem sza_to {j : Nat} {ds : List PyData} {ns : List Nat} (h : SzA j ds ns) : ∀ i, SzA (j + i) ds ns
  | 0 => h
  | i + 1 => sz_up (sz_step (j + i)) (sza_to h i)
theorem tma_sz {k S N : Nat} {ds : List PyData} {ns : List Nat} (hk : k ≤ 5) (h : TmA k ds S N ns) : SzA k ds ns := by
  induction ds generalizing S N ns with
  | nil => cases h; exact .nil
  | cons d ds ih =>
    cases h with
    | cons h hs => exact .cons (tm_size k hk h) (ih hs)
theorem prod_pow {B : Nat} (hB : 1 ≤ B) : ∀ {ns : List Nat}, (∀ n ∈ ns, n ≤ B) → prodN ns ≤ B ^ ns.length
  | [], _ => Nat.le_refl _
  | n :: ns, h => by
    show n * prodN ns ≤ B ^ (ns.length + 1)
    rw [Nat.pow_succ, Nat.mul_comm]
    exact Nat.mul_le_mul (prod_pow hB fun m hm => h m (List.mem_cons_of_mem _ hm)) (h n List.mem_cons_self)
theorem small_of {S N : Nat} {ds : List PyData} {ns : List Nat} (ta : TmA 5 ds S N ns) (hl : ds.length ≤ 4) : SmallP ns := fun i => by
  have b := tma_bnd ta
  have b4 : bnd 5 ^ 4 < 2 ^ 1000 := by decide +kernel
  have b5 : bnd 5 < 2 ^ 1000 := by decide +kernel
  have b1 : 1 ≤ bnd 5 := by decide +kernel
  rw [ta.len] at hl
  refine ⟨?_, fun n hn => Nat.lt_of_le_of_lt (b n hn) b5⟩
  have h1 := prod_pow b1 (ns := ns.take i) fun n hn => b n (List.mem_of_mem_take hn)
  have h2 : (ns.take i).length ≤ 4 := by rw [List.length_take]; omega
  have h3 : bnd 5 ^ (ns.take i).length ≤ bnd 5 ^ 4 := Nat.pow_le_pow_right b1 h2
  omega
theorem DMix.small {ds : List PyData} {ns : List Nat} (h : DMix ds ns) : SmallP ns := by
  obtain ⟨S, N, ta, _, _⟩ := h.tm
  exact small_of ta h.four
theorem DMix.isMix {ds : List PyData} {ns : List Nat} (h : DMix ds ns) : MixR (.tuple ds) true := by
  obtain ⟨S, N, ta, h1, h2⟩ := h.tm
  exact .go h.ne h.four (mixw_of ta 0 0 (by omega) (by omega))
theorem DMix.sz {ds : List PyData} {ns : List Nat} (h : DMix ds ns) : SzA 5 ds ns ∧ SzA 16 ds ns := by
  obtain ⟨S, N, ta, _, _⟩ := h.tm
  have := tma_sz (by decide) ta
  exact ⟨this, sza_to this 11⟩
theorem tma_rev {k S N : Nat} {ds : List PyData} {ns : List Nat} (h : TmA k ds S N ns) : TmA k ds.reverse S N ns.reverse := by
  induction ds generalizing S N ns with
  | nil => cases h; exact .nil
  | cons d ds ih =>
    cases h with
    | @cons _ S1 N1 S2 N2 m _ _ ms h hs =>
      have := (ih hs).snoc h
      rw [List.reverse_cons, List.reverse_cons, Nat.add_comm S1, Nat.add_comm N1]
      exact this
theorem prod_app : ∀ (a b : List Nat), prodN (a ++ b) = prodN a * prodN b
  | [], b => by simp [prodN]
  | n :: a, b => by
    show n * prodN (a ++ b) = n * prodN a * prodN b
    rw [prod_app a b, Nat.mul_assoc]
theorem prod_rev : ∀ (a : List Nat), prodN a.reverse = prodN a
  | [] => rfl
  | n :: a => by
    rw [List.reverse_cons, prod_app, prod_rev a]
    show prodN a * (n * 1) = n * prodN a
    rw [Nat.mul_one, Nat.mul_comm]
theorem noLA_rev {ds : List PyData} (h : noLA ds = true) : noLA ds.reverse = true := noLA_of fun d hd => noLA_mem h (List.mem_reverse.mp hd)
theorem DMix.rev {ds : List PyData} {ns : List Nat} (h : DMix ds ns) : DMix ds.reverse ns.reverse := by
  obtain ⟨S, N, ta, h1, h2⟩ := h.tm
  exact ⟨by rw [List.length_reverse]; exact h.ne, by rw [List.length_reverse]; exact h.four, ⟨S, N, tma_rev ta, h1, h2⟩, noLA_rev h.nl⟩
theorem tma_take {k S N : Nat} {ds : List PyData} {ns : List Nat} (i : Nat) (h : TmA k ds S N ns) : ∃ S' N', TmA k (ds.take i) S' N' (ns.take i) ∧ S' ≤ S ∧ N' ≤ N := by
  induction ds generalizing S N ns i with
  | nil => cases h; simpa using TmA.nil
  | cons d ds ih =>
    cases h with
    | @cons _ S1 N1 S2 N2 m _ _ ms h hs =>
      cases i with
      | zero => exact ⟨0, 0, .nil, Nat.zero_le _, Nat.zero_le _⟩
      | succ i =>
        obtain ⟨S', N', t, a, b⟩ := ih i hs
        exact ⟨_, _, .cons h t, by omega, by omega⟩
/-! ### the law's own mixes, drawn -/
theorem sumI : ∀ ns : List Nat, (ns.map fun (n : Nat) => (n : Int)).sum = ((ns.sum : Nat) : Int)
  | [] => rfl
  | n :: ns => by rw [List.map_cons, List.sum_cons, List.sum_cons, sumI ns, Int.natCast_add]
theorem tm_lit : TmA 4 [.tuple [.str "step", .tuple [.int 1, .int 1], .tuple []]] 1 1 [1] :=
  .cons (Tm.st (k := 3) (q := .tuple [.int 1, .int 1]) (os := []) (by decide +kernel) (by decide) (fun o z => by cases z) .nil) .nil
def pb : Nat → Nat
  | 0 => 0
  | k + 1 => 1 + 3 * pb k
theorem tma_pb {k B : Nat} (f : ∀ {d : PyData} {S N n : Nat}, Tm k d S N n → N ≤ B) {S N : Nat} {ds : List PyData} {ns : List Nat} (h : TmA k ds S N ns) : N ≤ ds.length * B := by
  induction ds generalizing S N ns with
  | nil => cases h; exact Nat.zero_le _
  | cons d ds ih =>
    cases h with
    | cons h hs =>
      have := f h
      have := ih hs
      rw [List.length_cons, Nat.succ_mul]
      omega
theorem tm_pb : ∀ (k : Nat) {d : PyData} {S N n : Nat}, Tm k d S N n → N ≤ pb k
  | 0, _, _, _, _, h => by cases h
  | k + 1, _, _, _, _, h => by
    have e : pb (k + 1) = 1 + 3 * pb k := rfl
    cases h with
    | e => omega
    | @al _ S N ts ns ta l2 l3 =>
      have h1 := tma_pb (tm_pb k) ta
      have h2 : ts.length * pb k ≤ 3 * pb k := Nat.mul_le_mul_right _ l3
      omega
    | @st _ S N q os ns fq ol ob ta =>
      have h1 := tma_pb (tm_pb k) ta
      rw [List.length_map] at h1
      have h2 : os.length * pb k ≤ 3 * pb k := Nat.mul_le_mul_right _ ol
      omega
theorem ne_emp (ds : List PyData) : PyData.eqv (.list ds) (.list []) = ds.isEmpty := by
  cases ds with
  | nil => rfl
  | cons d ds => simp [PyData.eqv, PyData.eqvAll]
def spTrmU (K : PySem.W.Frag) : Sp := fun vs H Q _ => ∃ (p a : Addr) (w j : Int) (N : Nat), vs = [.ref p, .int w, .int j] ∧ 1 ≤ j ∧ j ≤ 3 ∧ 0 ≤ w ∧ w < 4 ∧ Pen H p a N ∧ N + 200 ≤ 90000 ∧
  ∀ v d S M n H', ExB p H H' → Pen H' p a (N + 200) → Dq K p H' v d → noL d = true → Tm 4 d S M n → Q v H'
section
variable {P : Program} {w : World} {K : PySem.W.Frag} {mg : Str → Option Value} {base : Heap}
theorem trmU_key : ∀ vs H Q E, spTrmU K vs H Q E → ∃ k, k ≤ 3 ∧ spTrm K k vs H Q E := by
  rintro vs H Q E ⟨p, a, w, j, N, rfl, j1, j3, w0, w4, hp, hN, k⟩
  obtain rfl | rfl | rfl : j = 1 ∨ j = 2 ∨ j = 3 := by omega
  · have c : cst 1 ≤ 200 := by decide
    exact ⟨1, by decide, p, a, w, N, rfl, w0, w4, hp, by omega, fun v d S M n H' eb hp' hq nl tm => k v d S M n H' eb (hp'.mono (by omega)) hq nl (tm_up 3 (tm_up 2 tm))⟩
  · have c : cst 2 ≤ 200 := by decide
    exact ⟨2, by decide, p, a, w, N, rfl, w0, w4, hp, by omega, fun v d S M n H' eb hp' hq nl tm => k v d S M n H' eb (hp'.mono (by omega)) hq nl (tm_up 3 tm)⟩
  · have c : cst 3 ≤ 200 := by decide
    exact ⟨3, by decide, p, a, w, N, rfl, w0, w4, hp, by omega, fun v d S M n H' eb hp' hq nl tm => k v d S M n H' eb (hp'.mono (by omega)) hq nl tm⟩
theorem ok__law_termU (T : Txt K mg) : FnOk P w K mg base CX0 8 T.d__law_term.a T.d__law_term.fd ["_law_pen", "_law_way", "_law_deep"] (spTrmU K) :=
  ⟨fun vs H Q E h => by
    obtain ⟨k, _, h'⟩ := trmU_key _ _ _ _ h
    exact (ok__law_term (P := P) (w := w) (base := base) T k).len _ _ _ _ h', fun A outer s H args us vs Q E hr e0 hb hv h => by
    obtain ⟨k, hk, h'⟩ := trmU_key _ _ _ _ h
    exact ((ok__law_term T k).mono (by omega)).run A outer s H args us vs Q E hr e0 hb hv h'⟩
def spLMix (K : PySem.W.Frag) : Sp := fun vs H Q _ => ∃ (p a : Addr) (w m : Int) (N : Nat), vs = [.ref p, .int w, .int m] ∧ 0 ≤ w ∧ w < 4 ∧ Pen H p a N ∧ N ≤ 80000 ∧
  ∀ v ds ns H', ExB p H H' → Pen H' p a (N + 1000) → Dq K p H' v (.tuple ds) → (∃ S M, TmA 4 ds S M ns ∧ S ≤ 10 ∧ M ≤ 40) → 1 ≤ ds.length → ds.length ≤ 4 → noLA ds = true → Q v H'
theorem litD {G : Hp} {p : Addr} {σ : L2.St} : EvD K p (tTup (tCons (tTup (tCons (tC (.str "step")) (tCons (tTup (tCons (tC (.int 1)) (tCons (tC (.int 1)) tNil))) (tCons (tTup tNil) tNil)))) tNil)) σ G (.tuple [.tuple [.str "step", .tuple [.int 1, .int 1], .tuple []]]) :=
  ed_tup (eds_cons (ed_tup (eds_cons ed_str (eds_cons (ed_tup (eds_cons ed_int (eds_cons ed_int eds_nil)) (by decide)) (eds_cons (ed_tup eds_nil (by decide)) eds_nil))) (by decide)) eds_nil) (by decide)
theorem ok__law_mix (T : Txt K mg) : FnOk P w K mg base CX0 9 T.d__law_mix.a T.d__law_mix.fd ["_law_pen", "_law_way", "_law_most"] (spLMix K) := by
  refine T.d__law_mix.F.ok sc__law_mix (fun vs H Q E h => ?_) (fun cdv A outer s H vs Q E hr h => ?_)
  · obtain ⟨p, a, w, m, N, rfl, _⟩ := h
    rfl
  · obtain ⟨p, a, w, m, N, rfl, w0, w4, hp, hN, k⟩ := h
    refine ⟨_, (pss_cons (ps_set (i := 3) sc__law_mix.nd rfl (Or.inl rfl) (pe_lst pa_nil))
      (pss_cons (ps_for PassesOwn.never rfl (pi_range1 (by rfl) T.n_range (pa_cons (pe_op op_add pe_int (pe_call (ok__law_take T) (hr.mono (by decide)) (by rfl) T.d__law_take.g T.d__law_take.F.kp T.d__law_take.b .nil pass0 (pa_cons (pv 0) (pa_cons pe_int pa_nil)))) pa_nil)) (pg_name (i := 4) sc__law_mix.nd rfl (Or.inl rfl)) (pss_cons (ps_set (i := 5) sc__law_mix.nd rfl (Or.inl rfl) (pe_op op_cat (pv 3) (pe_lst (pa_cons (pe_call (ok__law_termU T) (hr.mono (by decide)) (by rfl) T.d__law_term.g T.d__law_term.F.kp T.d__law_term.b .nil pass0 (pa_cons (pv 0) (pa_cons (pv 1) (pa_cons (pe_op op_add pe_int (pe_call (ok__law_take T) (hr.mono (by decide)) (by rfl) T.d__law_take.g T.d__law_take.F.kp T.d__law_take.b .nil pass0 (pa_cons (pv 0) (pa_cons pe_int pa_nil)))) pa_nil)))) pa_nil))))
      (pss_cons (ps_par (i := 6) (j := 7) (by rfl) sc__law_mix.nd rfl rfl (by decide) rfl rfl (pa_cons (pe_callB (cr_sum rfl) (by rfl) T.n_sum (by decide +kernel) (pa_cons (pe_lc (own := [("_law_one", 8)]) (g := gName 8) (te := tCB (fun xs H Q => ∃ p ys, xs = [V.ref p] ∧ (SqL K H p ys ∨ SqT K H p ys) ∧ Q (V.int ys.length) H) (tCons (tCall (spSteps K 5) [] E0 (tCons (tVar 8) tNil)) tNil)) (tt := tYes) rfl sc__law_mix.nd (pi_list (pv 5)) (blkOk_by (own := [("_law_one", 8)]) (N := n__law_mix) (sc := defScope s__law_mix) (by decide +kernel)) (fun _ _ _ _ _ => pg_name (i := 8) sc__law_mix.nd rfl (Or.inl rfl)) (fun _ _ _ _ _ => pts_nil) (fun _ _ _ _ _ => (pe_callB call_len_seq (by rfl) T.n_len (by decide +kernel) (pa_cons (pe_call (ok__law_steps T 5) (hr.mono (by decide)) (by rfl) T.d__law_steps.g T.d__law_steps.F.kp T.d__law_steps.b .nil pass0 (pa_cons (pv 8) pa_nil)) pa_nil)))) pa_nil)) (pa_cons (pe_callB (cr_sum rfl) (by rfl) T.n_sum (by decide +kernel) (pa_cons (pe_lc (own := [("_law_one", 8)]) (g := gName 8) (tt := tYes) rfl sc__law_mix.nd (pi_list (pv 5)) (blkOk_by (own := [("_law_one", 8)]) (N := n__law_mix) (sc := defScope s__law_mix) (by decide +kernel)) (fun _ _ _ _ _ => pg_name (i := 8) sc__law_mix.nd rfl (Or.inl rfl)) (fun _ _ _ _ _ => pts_nil) (fun _ _ _ _ _ => (pe_call (ok__law_parts T 5) (hr.mono (by decide)) (by rfl) T.d__law_parts.g T.d__law_parts.F.kp T.d__law_parts.b .nil pass0 (pa_cons (pv 8) pa_nil)))) pa_nil)) pa_nil)) (by rfl))
      (pss_one (ps_if (PW.pt (pw_and (pt_cmpR op_lt (pv 6) pe_int (nomark _)) (pw_and (pt_cmpR op_lt (pv 7) pe_int (nomark _)) (pw_and1 (pt_cmpR op_le (pe_call (ok__law_size_of T) (hr.mono (by decide)) (by rfl) T.d__law_size_of.g T.d__law_size_of.F.kp T.d__law_size_of.b .nil pass0 (pa_cons (pe_callTy call_tuple_of (by rfl) T.n_tuple (by decide +kernel) (pa_cons (pv 5) pa_nil)) pa_nil)) (pv 2) (nomark _)))))) (pss_one (ps_set (i := 3) sc__law_mix.nd rfl (Or.inl rfl) (pv 5))) pss_nil)))))
      (pss_one (ps_ret (pe_ifExp (pt_cmpR (op_neD hr.units) (pv 3) (pe_lst pa_nil) (nomark _)) (pe_callTy call_tuple_of (by rfl) T.n_tuple (by decide +kernel) (pa_cons (pv 3) pa_nil)) (pe_tup (pa_cons (pe_tup (pa_cons pe_str (pa_cons (pe_tup (pa_cons pe_int (pa_cons pe_int pa_nil))) (pa_cons (pe_tup pa_nil) pa_nil)))) pa_nil))))))), ?_⟩
    refine n_seq ?_
    refine ⟨by show 0 ≤ sizeLine; decide, fun f0 ff => ?_⟩
    have e0 := Ex.new (o := .lst []) ff
    have hp0 := hp.ex e0
    obtain ⟨xp, hxp⟩ := hp.hasP
    have n0 : f0 ≠ p := (ne_of_none hxp ff).symm
    dsimp only
    refine n_seq ?_
    refine ⟨.ref p, rfl, p, a, 4, N, rfl, hp0, by decide, by decide, by omega, fun r H1 r0 r4 eb1 hp1 => ⟨1, r, rfl, rfl, 1 + r, rfl, by omega, by omega, ?_⟩⟩
    refine for_range (lo := 0) (n := (1 + r).toNat) (fun j σ G => ∃ (f : Addr) (ds : List PyData) (zs : List V) (S M : Nat) (ns : List Nat) (y4 y5 y6 y7 y8 : Option V), σ = [some (.ref p), some (.int w), some (.int m), some (.ref f), y4, y5, y6, y7, y8] ∧ ExB p H G ∧ Pen G p a (N + 1 + 201 * j) ∧ f ≠ p ∧ G f = some (.lst zs) ∧ DqAll K p G zs ds ∧ TmA 4 ds S M ns ∧ S ≤ 10 ∧ M ≤ 40 ∧ ds.length ≤ j ∧ noLA ds = true)
      ⟨f0, [], [], 0, 0, [], none, none, none, none, none, rfl, (Ex.b e0).trans eb1, hp1, n0, eb1 _ _ n0 upd_same, .nil, .nil, Nat.zero_le _, Nat.zero_le _, Nat.zero_le _, rfl⟩ ?_ ?_
    · rintro j σ G hj ⟨f, ds, zs, S, M, ns, y4, y5, y6, y7, y8, rfl, eb, hpG, fp, hf, qs, ta, hS, hM, hl, nl⟩
      have j4 : j < 4 := by omega
      refine n_name ?_
      dsimp only
      refine n_seq ?_
      refine ⟨.ref f, rfl, .ref p, rfl, .int w, rfl, .ref p, rfl, p, a, 3, _, rfl, hpG, by decide, by decide, by omega, fun r3 G1 r30 r33 eb1' hp1' => ⟨1, r3, rfl, rfl, p, a, w, 1 + r3, _, rfl, by omega, by omega, w0, w4, hp1', by omega, fun v d S' M' n' G2 eb2 hp2 q nlq tm => ?_⟩⟩
      refine ⟨by show 1 ≤ sizeLine; decide, fun l1 f1 => ?_⟩
      have hf2 : G2 f = some (.lst zs) := eb2 _ _ fp (eb1' _ _ fp hf)
      have x1 := Ex.new (o := .lst [v]) f1
      have zl : zs.length = ds.length := qs.len
      refine ⟨f, l1, zs, [v], rfl, rfl, x1 _ _ hf2, upd_same, Nat.le_of_lt (small1000 (by show zs.length + 1 ≤ 1000; omega)), fun g fg => ?_⟩
      obtain ⟨xG, hxG⟩ := hpG.hasP
      have x2 := x1.trans (Ex.new (o := .lst (zs ++ [v])) fg)
      generalize hG4 : upd (upd G2 l1 (.lst [v])) g (.lst (zs ++ [v])) = G4 at x2
      have hg4 : G4 g = some (.lst (zs ++ [v])) := by rw [← hG4]; exact upd_same
      have ebG : ExB p G G4 := (eb1'.trans eb2).trans (Ex.b x2)
      have hp4 := hp2.ex x2
      have gp : g ≠ p := by
        obtain ⟨xp2, hxp2⟩ := hp2.hasP
        exact (ne_of_none (x1 _ _ hxp2) fg).symm
      have qs4 : DqAll K p G4 (zs ++ [v]) (ds ++ [d]) := (DqAll.nl hxG ebG _ _ nl qs).append (.cons (Dq.ex x2 _ _ q) .nil)
      have hf4 : G4 f = some (.lst zs) := x2 _ _ hf2
      have ta4 : TmA 4 (ds ++ [d]) (S + S') (M + M') (ns ++ [n']) := ta.snoc tm
      have nl4 : noLA (ds ++ [d]) = true := by rw [noLA_app, nl]; simp [noLA, nlq]
      have len4 : (zs ++ [v]).length ≤ 4 := by rw [List.length_append]; show zs.length + 1 ≤ 4; omega
      dsimp only
      refine n_seq ?_
      -- the steps
      obtain ⟨Ss, sl, ssum, hSs⟩ := ta4.stp
      obtain ⟨Ms, ml, msum, hMs⟩ := ta4.parts
      have dl4 : (zs ++ [v]).length = (ds ++ [d]).length := qs4.len
      have M40 : M' ≤ 40 := tm_pb 4 tm
      refine ⟨.ref g, rfl, g, rfl, ⟨_, SqL.of hg4⟩, fun D nD => ?_⟩
      refine lc_list (K := K) (a := g) (xs := zs ++ [v]) (fun i G' => Ex G4 G' ∧ G' D = some (.lst (intsN (Ss.take i)))) ⟨Ex.new nD, upd_same⟩ (fun i G' _ h => SqL.of (h.1 _ _ hg4)) ?_ ?_
      · rintro i x G5 hx ⟨e5, h5⟩
        have il : i < (zs ++ [v]).length := (List.getElem?_eq_some_iff.mp hx).1
        obtain ⟨di, hdi⟩ : ∃ di, (ds ++ [d])[i]? = some di := ⟨_, List.getElem?_eq_getElem (by rw [← dl4]; exact il)⟩
        obtain ⟨x', hx', qx⟩ := qs4.get hdi
        rw [hx] at hx'
        cases hx'
        obtain ⟨si, mi, zi, hsi, hti, hmi⟩ := hSs i di hdi
        refine ⟨rfl, ?_⟩
        refine yes_of ?_
        rw [if_pos rfl]
        refine ⟨x, rfl, p, x, di, si, mi, zi, rfl, Dq.ex e5 _ _ qx, tm_up 4 hti, by omega, fun l2 zs2 G6 e6 f6 h6 hz6 => ?_⟩
        refine ⟨l2, zs2, rfl, .inl (SqL.of h6), ?_⟩
        refine ⟨_, e6 _ _ h5, small1000 (by unfold intsN; rw [List.length_map, List.length_take]; omega), Ex.mut (e5.trans e6) nD, ?_⟩
        rw [upd_same, List.take_succ, hsi, hz6]
        unfold intsN
        rw [List.map_append]
        rfl
      · rintro G5 ⟨e5, h5⟩
        rw [dl4, sl, List.take_length] at h5
        refine ⟨D, Ss.map fun (n : Nat) => (n : Int), rfl, ?_, ?_⟩
        · rw [List.map_map]
          exact SqL.of h5
        rw [sumI, ssum]
        refine ⟨.ref g, rfl, g, rfl, ⟨_, SqL.of (e5 _ _ hg4)⟩, fun D2 nD2 => ?_⟩
        refine lc_list (K := K) (a := g) (xs := zs ++ [v]) (fun i G' => Ex G5 G' ∧ G' D2 = some (.lst (intsN (Ms.take i)))) ⟨Ex.new nD2, upd_same⟩ (fun i G' _ h => SqL.of (h.1 _ _ (e5 _ _ hg4))) ?_ ?_
        · rintro i x G6 hx ⟨e6, h6⟩
          have il : i < (zs ++ [v]).length := (List.getElem?_eq_some_iff.mp hx).1
          obtain ⟨di, hdi⟩ : ∃ di, (ds ++ [d])[i]? = some di := ⟨_, List.getElem?_eq_getElem (by rw [← dl4]; exact il)⟩
          obtain ⟨x', hx', qx⟩ := qs4.get hdi
          rw [hx] at hx'
          cases hx'
          obtain ⟨si, mi, zi, hmi, hti⟩ := hMs i di hdi
          refine ⟨rfl, ?_⟩
          refine yes_of ?_
          rw [if_pos rfl]
          refine ⟨x, rfl, p, x, di, si, mi, zi, rfl, Dq.ex (e5.trans e6) _ _ qx, tm_up 4 hti, fun G7 e7 => ?_⟩
          refine ⟨_, e7 _ _ h6, small1000 (by unfold intsN; rw [List.length_map, List.length_take]; omega), Ex.mut (e6.trans e7) nD2, ?_⟩
          rw [upd_same, List.take_succ, hmi]
          unfold intsN
          rw [List.map_append]
          rfl
        · rintro G6 ⟨e6, h6⟩
          rw [dl4, ml, List.take_length] at h6
          refine ⟨D2, Ms.map fun (n : Nat) => (n : Int), rfl, ?_, ?_⟩
          · rw [List.map_map]
            exact SqL.of h6
          rw [sumI, msum]
          refine ⟨_, _, rfl, ?_⟩
          dsimp only
          have e56 := e5.trans e6
          have eb6 : ExB p H G6 := (eb.trans ebG).trans (Ex.b e56)
          have hpen : ∀ {G7 : Hp}, Ex G6 G7 → Pen G7 p a (N + 1 + 201 * (j + 1)) := fun e7 => ((hp4.ex e56).ex e7).mono (by omega)
          have out : ∀ {G7 : Hp} {z6 z7 z8 : Option V}, Ex G6 G7 → ∃ (f' : Addr) (ds : List PyData) (zs : List V) (S M : Nat) (ns : List Nat) (y4 y5 y6 y7 y8 : Option V), [some (V.ref p), some (.int w), some (.int m), some (.ref f), some (V.int (0 + (j : Int))), some (.ref g), z6, z7, z8] = [some (.ref p), some (.int w), some (.int m), some (.ref f'), y4, y5, y6, y7, y8] ∧ ExB p H G7 ∧ Pen G7 p a (N + 1 + 201 * (j + 1)) ∧ f' ≠ p ∧ G7 f' = some (.lst zs) ∧ DqAll K p G7 zs ds ∧ TmA 4 ds S M ns ∧ S ≤ 10 ∧ M ≤ 40 ∧ ds.length ≤ j + 1 ∧ noLA ds = true := fun {G7 z6 z7 z8} e7 =>
            ⟨f, ds, zs, S, M, ns, _, _, _, _, _, rfl, eb6.trans (Ex.b e7), hpen e7, fp, e7 _ _ (e56 _ _ hf4), DqAll.ex e7 _ _ (DqAll.ex e56 _ _ (DqAll.nl hxG ebG _ _ nl qs)), ta, hS, hM, by omega, nl⟩
          refine ⟨_, rfl, _, _, rfl, rfl, _, rfl, ite2 (fun c1 => ?_) (fun c1 => n_next (out (Ex.refl _)))⟩
          refine ⟨_, rfl, _, _, rfl, rfl, _, rfl, ite2 (fun c2 => ?_) (fun c2 => n_next (out (Ex.refl _)))⟩
          have d1 : ((S + S' : Nat) : Int) < 11 := of_decide_eq_true c1
          have d2 : ((M + M' : Nat) : Int) < 41 := of_decide_eq_true c2
          have dl : (ds ++ [d]).length ≤ 4 := by rw [← dl4]; exact len4
          have ta5 : TmA 5 (ds ++ [d]) (S + S') (M + M') (ns ++ [n']) := tma_up (tm_up 4) ta4
          refine ⟨.ref g, rfl, g, _, rfl, .inl ⟨SqL.of (e56 _ _ hg4), fun t ft => ?_⟩⟩
          have x7 := Ex.new (o := .tup (zs ++ [v])) ft
          refine ⟨p, .ref t, ds ++ [d], ns ++ [n'], rfl, .tup (SqT.of upd_same) (DqAll.ex (e56.trans x7) _ _ qs4), tma_sz (by decide) ta5, small_of ta5 dl, fun G8 e8 => ?_⟩
          refine ⟨.int m, rfl, _, m, rfl, rfl, _, rfl, ite2 (fun c3 => ?_) (fun c3 => n_next (out (x7.trans e8)))⟩
          have e68 := x7.trans e8
          refine ⟨.ref g, rfl, ?_⟩
          exact ⟨g, ds ++ [d], zs ++ [v], S + S', M + M', ns ++ [n'], _, _, _, _, _, rfl, eb6.trans (Ex.b e68), hpen e68, gp, e68 _ _ (e56 _ _ hg4), DqAll.ex (e56.trans e68) _ _ qs4, ta4, by omega, by omega, by rw [List.length_append]; show ds.length + 1 ≤ j + 1; omega, nl4⟩
    · rintro σ G ⟨f, ds, zs, S, M, ns, y4, y5, y6, y7, y8, rfl, eb, hpG, fp, hf, qs, ta, hS, hM, hl, nl⟩
      have nl' := noLA_lay ds nl
      have dd : ds.length ≤ 4 := by omega
      have nc : SeqAt.shaped (.list ds) = true := by
        have h1 := nca_of (c := cc 4) (e := 16) fun t ht => by
          obtain ⟨_, _, _, q⟩ := ta.mem t ht
          exact tm_nc 4 q (noLA_mem nl ht)
        have h2 := h1.dp
        unfold SeqAt.shaped
        rw [Bool.and_eq_true]
        refine ⟨by simpa [PyData.canLay0] using nl'.1, decide_eq_true ?_⟩
        show PyData.depthAll ds + 1 ≤ 64
        omega
      refine ⟨_, rfl, by show 0 ≤ sizeLine; decide, fun l fl => ?_⟩
      have x1 := Ex.new (o := .lst []) fl
      refine ⟨.list ds, .list [], .lst (SqL.of (x1 _ _ hf)) (DqAll.dp _ _ nl'.2 (DqAll.ex x1 _ _ qs)), .lst (SqL.of upd_same) .nil, nc, rfl, _, rfl, ?_⟩
      rw [ne_emp]
      have hpE : Pen (upd G l (.lst [])) p a (N + 1000) := (hpG.ex x1).mono (by omega)
      have ebE : ExB p H (upd G l (.lst [])) := eb.trans (Ex.b x1)
      cases ds with
      | nil =>
        refine iteF ?_
        refine litD (K := K) (p := p) _ (Ex.refl _) _ fun v G2 e2 q2 => ?_
        exact k v _ [1] G2 (ebE.trans (Ex.b e2)) (hpE.ex e2) q2 ⟨1, 1, tm_lit, by decide, by decide⟩ (by decide) (by decide) (by decide +kernel)
      | cons d ds =>
        refine iteT ?_
        refine ⟨_, rfl, f, zs, rfl, .inl ⟨SqL.of (x1 _ _ hf), fun t ft => ?_⟩⟩
        have x2 := Ex.new (o := .tup zs) ft
        exact k (.ref t) _ ns _ (ebE.trans (Ex.b x2)) (hpE.ex x2) (.tup (SqT.of upd_same) (DqAll.ex (x1.trans x2) _ _ qs)) ⟨S, M, ta, hS, hM⟩ (Nat.succ_le_succ (Nat.zero_le _)) dd nl
end
/-! ### what is refused -/
def tb__law_is_refused (K : PySem.W.Frag) (C T : Addr) : WX → TS := fun W => tDrop (tCallS (spSizeX K T C) (WE W) (tCons (tVar 0) tNil))
def ts0__law_is_refused (K : PySem.W.Frag) (C _T : Addr) : Addr → Value → Option Addr → TS := fun a cls dd => tRet (tOp rEq (tCB (rRepr K) (tCons (tXf a cls dd C "value" (tVar 1)) tNil)) (tCB (rRepr K) (tCons (tVar 0) tNil)))
def ts1__law_is_refused (_K : PySem.W.Frag) (_C _T : Addr) : Addr → Value → Option Addr → TS := fun _ _ _ => tRet (tC (.bl false))
section
variable {P : Program} {w : World} {K : PySem.W.Frag} {mg : Str → Option Value} {base : Heap}
def spRef (K : PySem.W.Frag) (T : Addr) : Sp := fun vs H Q _ => ∃ (p : Addr) (v : V) (d : PyData), vs = [v] ∧ Dq K p H v d ∧ MixR d false ∧ GxR.TabG H T ∧ Nc 900000 60 d ∧ ∀ H', ExB T H H' → GxR.TabG H' T → Q (.bl true) H'
theorem ok__law_is_refused (T : Txt K mg) (tb : GxR.TabB base mg T.c_has_form_of_step T.P_has_form_of_step) : FnG P w K mg base 22 T.d__law_is_refused.a T.d__law_is_refused.fd ["_law_thing"] (spRef K T.P_has_form_of_step) := by
  refine okG T.d__law_is_refused.F sc__law_is_refused (fun vs H Q E h => ?_) (fun cdv A outer s H vs Q gd hr h => ?_)
  · obtain ⟨p, v, d, rfl, _⟩ := h
    rfl
  · obtain ⟨p, v, d, rfl, hd, hR, ht, hn, k⟩ := h
    have hu := hr.units
    refine ⟨_, (pss_cons (ps_try_asM (tb := tb__law_is_refused K T.E_BadMix.C T.P_has_form_of_step) (Wout := fun _ _ _ _ => False) rfl rfl sc__law_is_refused.nd takes0 (fun W pn xe tk _ => (pss_one (ps_expr (pe_callS (ok_size T tb) (hr.mono (by decide)) (by rfl) T.d_size.g T.d_size.F.kp T.d_size.b (fun σ => passAt tk σ) (pa_cons (pv 0) pa_nil))))) (HdsAs.cons (i := 1) (ts := ts0__law_is_refused K T.E_BadMix.C T.P_has_form_of_step) rfl rfl ⟨by rfl, by decide, .inl T.E_BadMix.g⟩ (fun a oe cls d pn hz hf => (pss_one (ps_ret (pe_cmpR op_eq (pe_callB (call_repr gd hu) (by rfl) T.n_repr (by decide +kernel) (pa_cons (pe_xf T.E_BadMix.x.xf T.E_BadMix.x.noV hz hf (pv 1)) pa_nil)) (pe_callB (call_repr gd hu) (by rfl) T.n_repr (by decide +kernel) (pa_cons (pv 0) pa_nil)) (nomark _))))) (HdsAs.cons (i := 1) (ts := ts1__law_is_refused K T.E_BadMix.C T.P_has_form_of_step) rfl rfl ⟨by rfl, by decide, .inl T.M.g⟩ (fun a oe cls d pn hz hf => (pss_one (ps_ret pe_bl))) HdsAs.nil)))
      (pss_one (ps_ret pe_bl))), ?_⟩
    have ln := hn.len (by decide)
    have big : 1000000 ≤ sizeLine := by decide
    refine ⟨v, rfl, p, v, d, false, rfl, hd, hR, ht, (fun z => nomatch z), fun _ H1 eb1 t1 => ?_⟩
    intro dd kn H' ex hdd
    refine ⟨true, T.E_BadMix.x.self1, fun _ a ha => ?_, fun z => nomatch z⟩
    have q := Dq.ex ex _ _ (Dq.tb ht eb1 _ _ hd)
    refine ⟨.ref a, rfl, rfl, rfl, dd, _, v, rfl, hdd, rfl, v, d, p, rfl, .inl q, hn.sh, hn.dp, by omega, v, rfl, v, d, p, rfl, .inl q, hn.sh, hn.dp, by omega, rfl, ?_⟩
    rw [decide_eq_true rfl]
    exact k H' (eb1.trans (Ex.b ex)) (tab_ex t1 ex)
end
/-! ### the law k36 -/
theorem ifT {c : Bool} {A B : Prop} (h : c = true) (x : A) : if c = true then A else B := by
  rw [if_pos h]
  exact x
theorem ifF {c : Bool} {A B : Prop} (h : c = false) (x : B) : if c = true then A else B := by
  rw [h]
  exact iteF x
section
variable {K : PySem.W.Frag} {p a T : Addr} {σ : L2.St} {H H' : Hp} {N : Nat}
theorem tab_exb {xs : List V} (ht : GxR.TabG H T) (hp : H p = some (.lst xs)) (e : ExB p H H') : GxR.TabG H' T := by
  obtain ⟨ps, h1, h2⟩ := ht
  exact ⟨ps, e _ _ (by rintro rfl; rw [hp] at h1; cases h1) h1, h2⟩
theorem Pen.tb (h : Pen H p a N) (ht : GxR.TabG H T) (e : ExB T H H') : Pen H' p a N := by
  obtain ⟨cs, t, v, h1, h2, r⟩ := h
  exact ⟨cs, t, v, e _ _ (tab_ne ht h1 fun _ z => nomatch z) h1, e _ _ (tab_ne ht h2 fun _ z => nomatch z) h2, r⟩
theorem DqAll.rev : ∀ {xs : List V} {ds : List PyData}, DqAll K p H xs ds → DqAll K p H xs.reverse ds.reverse
  | _, _, .nil => .nil
  | _, _, .cons h hs => by
    rw [List.reverse_cons, List.reverse_cons]
    exact hs.rev.append (.cons h .nil)
theorem DqAll.cut : ∀ (i : Nat) {xs : List V} {ds : List PyData}, DqAll K p H xs ds → DqAll K p H (xs.take i) (ds.take i)
  | 0, _, _, _ => .nil
  | _ + 1, _, _, .nil => .nil
  | i + 1, _, _, .cons h hs => .cons h (hs.cut i)
theorem rd_cut3 {b : Addr} {i : Nat} {xs : List V} {Q : VK} (hv : σ[i]? = some (some (.ref b))) (hS : SqT K H b xs) (k : ∀ u H', Ex H H' → SqT K H' u (xs.take 3) → Q (.ref u) H') : tSl (rSlA K) (tVar i) tNoPart (tPart (tC (.int 3))) σ H Q := by
  have e3 : HT.sIx xs.length xs.length (some 3) = min 3 xs.length := HT.sIx_nat xs.length xs.length 3
  refine ⟨.ref b, hv, 3, rfl, b, xs, rfl, hS, fun h => ?_, fun _ q hq => ?_⟩
  · rw [e3] at h
    exact k b H (Ex.refl H) (by rw [List.take_of_length_le (by omega)]; exact hS)
  · refine k q _ (Ex.new hq) ?_
    have e : cutV xs none (some 3) = xs.take 3 := by
      unfold cutV
      rw [e3, HT.sIx_none, List.drop_zero, Nat.sub_zero]
      by_cases h : 3 ≤ xs.length
      · rw [Nat.min_eq_left h]
      · rw [Nat.min_eq_right (by omega), List.take_of_length_le (Nat.le_refl _), List.take_of_length_le (by omega)]
    rw [e]
    exact SqT.of upd_same
end
def dE : PyData := .tuple [.str "end"]
def dB : PyData := .tuple [.str "step", .tuple [.int 1, .int 1], .tuple [.tuple [.tuple [.int 1, .int 1], dE]]]
def dA : PyData := .tuple [.str "all", .tuple [dB, dB, dB]]
theorem tm_B : Tm 4 dB 1 2 2 := by
  have h : TmA 3 [dE] (0 + 0) (1 + 0) [1] := .cons .e .nil
  exact Tm.st (k := 3) (q := .tuple [.int 1, .int 1]) (os := [.tuple [.tuple [.int 1, .int 1], dE]]) (by decide +kernel) (by decide) (by decide +kernel) h
theorem tm_A : Tm 5 dA 3 7 8 := by
  have h : TmA 4 [dB, dB, dB] (1 + (1 + (1 + 0))) (2 + (2 + (2 + 0))) [2, 2, 2] := .cons tm_B (.cons tm_B (.cons tm_B .nil))
  exact Tm.al h (by decide) (by decide)
theorem dm_W : DMix [dA, dA, dA, dA] [8, 8, 8, 8] := ⟨by decide, by decide, ⟨12, 28, .cons tm_A (.cons tm_A (.cons tm_A (.cons tm_A .nil))), by decide, by decide⟩, by decide +kernel⟩
theorem dm_F : DMix [dB, dB, dB, dB] [2, 2, 2, 2] := ⟨by decide, by decide, ⟨4, 8, tma_up (tm_up 4) (.cons tm_B (.cons tm_B (.cons tm_B (.cons tm_B .nil)))), by decide, by decide⟩, by decide +kernel⟩
theorem dm_E : DMix [dE] [1] := ⟨by decide, by decide, ⟨0, 1, .cons .e .nil, by decide, by decide⟩, by decide +kernel⟩
/-- what is no mix -/
def dO (d : PyData) : List PyData := [.none, .tuple [], .list [d], d, .tuple [.none], .tuple [dE, dE, dE, dE, dE], .tuple [dA, dA, dA, dA, dB], .tuple [.tuple [.str "step", .tuple [.int 1, .int 1]]], .tuple [.tuple [.str "end", .int 1]]]
theorem mix_bad {d : PyData} {ds : List PyData} (hn : Named d) (hb : headB d = false) (hl : ds.length ≤ 3) : MixR (.tuple (d :: ds)) false := .go (Nat.succ_le_succ (Nat.zero_le _)) (Nat.succ_le_succ hl) (.bad (Run.bad (st := []) hn hb))
theorem mix_tm {d : PyData} {k S N n : Nat} (h : Tm k d S N n) : MixR d false := by
  cases h with
  | e => exact mix_bad (.inl rfl) rfl (by decide)
  | al _ _ _ => exact mix_bad (.inl rfl) rfl (by show 1 ≤ 3; decide)
  | st _ _ _ _ => exact mix_bad (.inl rfl) rfl (by show 2 ≤ 3; decide)
theorem all9 {P : PyData → Prop} {d1 d2 d3 d4 d5 d6 d7 d8 d9 : PyData} (h1 : P d1) (h2 : P d2) (h3 : P d3) (h4 : P d4) (h5 : P d5) (h6 : P d6) (h7 : P d7) (h8 : P d8) (h9 : P d9) : ∀ d ∈ [d1, d2, d3, d4, d5, d6, d7, d8, d9], P d := by
  intro d hd
  simp only [List.mem_cons, List.not_mem_nil, or_false] at hd
  rcases hd with rfl | rfl | rfl | rfl | rfl | rfl | rfl | rfl | rfl <;> assumption
theorem bad_O {d : PyData} {S N n : Nat} (h : Tm 4 d S N n) (hn : noL d = true) : ∀ x ∈ dO d, MixR x false ∧ Nc 900000 60 x := by
  have nd := tm_nc 4 h hn
  have c4 : cc 4 = 40000 := by decide
  unfold dO
  refine all9 ⟨.off rfl, nc_none.mono (by decide) (by decide)⟩ ⟨.len (by decide), (nc_tup (nca_nil (e := 0))).mono (by decide) (by decide)⟩ ⟨.off rfl, (nc_lst (nca_cons nd nca_nil)).mono (by omega) (by decide)⟩ ⟨mix_tm h, nd.mono (by omega) (by decide)⟩
    ⟨mix_bad (.inl rfl) rfl (by decide), (nc_tup (nca_cons nc_none nca_nil)).mono (by decide) (by decide)⟩ ⟨.len (by decide), ⟨by decide +kernel, by decide +kernel, by decide +kernel⟩⟩ ⟨.len (by decide), ⟨by decide +kernel, by decide +kernel, by decide +kernel⟩⟩
    ⟨mix_bad (.inr (.inr ⟨_, _, rfl, .inl rfl⟩)) (by decide +kernel) (by decide), ⟨by decide +kernel, by decide +kernel, by decide +kernel⟩⟩ ⟨mix_bad (.inr (.inr ⟨_, _, rfl, .inr (.inr ⟨by decide +kernel, by decide +kernel⟩)⟩)) (by decide +kernel) (by decide), ⟨by decide +kernel, by decide +kernel, by decide +kernel⟩⟩
section
variable {K : PySem.W.Frag} {p a T : Addr} {σ : L2.St} {H H' : Hp} {te tf : TE} {d e : PyData}
theorem ed_rep4 (h : EvD K p te σ H d) : EvD K p (tOp (rRepT K) (tTup (tCons te tNil)) (tC (.int 4))) σ H (.tuple [d, d, d, d]) := fun H1 e1 Q k =>
  h H1 e1 _ fun v H2 e2 q => ⟨by show 1 ≤ sizeLine; decide, fun t f => ⟨t, 4, [v], rfl, rfl, SqT.of upd_same, by simp, by decide, by decide, by show 1 ≤ 1000; decide, fun t2 f2 => by
    have x := (Ex.new (o := .tup [v]) f).trans (Ex.new (o := .tup [v, v, v, v]) f2)
    have q2 := Dq.ex x _ _ q
    exact k (.ref t2) _ (e2.trans x) (.tup (SqT.of upd_same) (.cons q2 (.cons q2 (.cons q2 (.cons q2 .nil)))))⟩⟩
theorem ed_rep5 (h : EvD K p te σ H d) : EvD K p (tOp (rRepT K) (tTup (tCons te tNil)) (tC (.int 5))) σ H (.tuple [d, d, d, d, d]) := fun H1 e1 Q k =>
  h H1 e1 _ fun v H2 e2 q => ⟨by show 1 ≤ sizeLine; decide, fun t f => ⟨t, 5, [v], rfl, rfl, SqT.of upd_same, by simp, by decide, by decide, by show 1 ≤ 1000; decide, fun t2 f2 => by
    have x := (Ex.new (o := .tup [v]) f).trans (Ex.new (o := .tup [v, v, v, v, v]) f2)
    have q2 := Dq.ex x _ _ q
    exact k (.ref t2) _ (e2.trans x) (.tup (SqT.of upd_same) (.cons q2 (.cons q2 (.cons q2 (.cons q2 (.cons q2 .nil))))))⟩⟩
theorem ed_catT {ds es : List PyData} (h : EvD K p te σ H (.tuple ds)) (g : EvD K p tf σ H (.tuple es)) (hd : ds ≠ []) (he : es ≠ []) (hl : ds.length + es.length ≤ 900) : EvD K p (tOp (rCatT K) te tf) σ H (.tuple (ds ++ es)) := fun H1 e1 Q k =>
  h H1 e1 _ fun v H2 e2 q => g H2 (e1.trans e2) _ fun u H3 e3 r => by
    obtain ⟨b, xs, rfl, hS, hA⟩ := (Dq.ex e3 _ _ q).seq
    obtain ⟨c, ys, rfl, hS2, hA2⟩ := r.seq
    have l1 := hA.len
    have l2 := hA2.len
    refine ⟨b, c, xs, ys, rfl, rfl, hS, hS2, fun z => hd ?_, Nat.le_of_lt (small1000 (by omega)), fun z => absurd ?_ he, fun _ t f => k (.ref t) _ ((e2.trans e3).trans (Ex.new f)) (.tup (SqT.of upd_same) ((DqAll.ex (Ex.new f) _ _ hA).append (DqAll.ex (Ex.new f) _ _ hA2)))⟩
    · rw [z] at l1
      exact List.length_eq_zero_iff.mp l1.symm
    · rw [z] at l2
      exact List.length_eq_zero_iff.mp l2.symm
theorem ed_E : EvD K p (tTup (tCons (tC (.str "end")) tNil)) σ H dE := ed_tup (eds_cons ed_str eds_nil) (by decide)
end
section
variable {P : Program} {w : World} {K : PySem.W.Frag} {mg : Str → Option Value} {base : Heap}
def spLaw (K : PySem.W.Frag) (T : Addr) : Sp := fun vs H Q _ => ∃ (a : Addr) (ns : List Int), vs = [.ref a] ∧ SqL K H a (ns.map V.int) ∧ ns.length ≤ 63 ∧ GxR.TabG H T ∧ ∀ H', Q (.bl true) H'
theorem ok_law (T : Txt K mg) (tb : GxR.TabB base mg T.c_has_form_of_step T.P_has_form_of_step) : FnG P w K mg base 23 T.d_law.a T.d_law.fd ["_law_script"] (spLaw K T.P_has_form_of_step) := by
  refine okG T.d_law.F sc_law (fun vs H Q E h => ?_) (fun cdv A outer s H vs Q gd hr h => ?_)
  · obtain ⟨a, ns, rfl, _⟩ := h
    rfl
  · obtain ⟨a, ns, rfl, hS, hl, ht, k⟩ := h
    have hu := hr.units
    refine ⟨_, (pss_cons (ps_set (i := 1) sc_law.nd rfl (Or.inl rfl) (pe_call (ok__law_open T) (hr.mono (by decide)) (by rfl) T.d__law_open.g T.d__law_open.F.kp T.d__law_open.b .nil pass0 (pa_cons (pv 0) pa_nil)))
      (pss_cons (ps_for PassesOwn.never rfl (pi_range1 (by rfl) T.n_range (pa_cons pe_int pa_nil)) (pg_name (i := 2) sc_law.nd rfl (Or.inl rfl)) (pss_cons (ps_set (i := 3) sc_law.nd rfl (Or.inl rfl) (pe_call (ok__law_mix T) (hr.mono (by decide)) (by rfl) T.d__law_mix.g T.d__law_mix.F.kp T.d__law_mix.b .nil pass0 (pa_cons (pv 1) (pa_cons (pe_call (ok__law_take T) (hr.mono (by decide)) (by rfl) T.d__law_take.g T.d__law_take.F.kp T.d__law_take.b .nil pass0 (pa_cons (pv 1) (pa_cons pe_int pa_nil))) (pa_cons (pe_call (ok__law_one_of T) (hr.mono (by decide)) (by rfl) T.d__law_one_of.g T.d__law_one_of.F.kp T.d__law_one_of.b .nil pass0 (pa_cons (pv 1) (pa_cons (pe_lstN (pa_cons pe_int (pa_cons pe_int (pa_cons (pe_op op_pow pe_int pe_int) pa_nil)))) pa_nil))) pa_nil)))))
      (pss_cons (ps_if (PW.pt (pw_or (pt_cmpR op_ne (pe_call (E := E0) (ok_size T tb) (hr.mono (by decide)) (by rfl) T.d_size.g T.d_size.F.kp T.d_size.b .nil (passes_call takes_none5 fun _ _ _ _ h => h) (pa_cons (pv 3) pa_nil)) (pe_call (ok__law_size_of T) (hr.mono (by decide)) (by rfl) T.d__law_size_of.g T.d__law_size_of.F.kp T.d__law_size_of.b .nil pass0 (pa_cons (pv 3) pa_nil)) (nomark _)) (pw_or1 (pt_cmpR op_ne (pe_call (E := E0) (ok_size T tb) (hr.mono (by decide)) (by rfl) T.d_size.g T.d_size.F.kp T.d_size.b .nil (passes_call takes_none5 fun _ _ _ _ h => h) (pa_cons (pe_revT (pv 3)) pa_nil)) (pe_call (E := E0) (ok_size T tb) (hr.mono (by decide)) (by rfl) T.d_size.g T.d_size.F.kp T.d_size.b .nil (passes_call takes_none5 fun _ _ _ _ h => h) (pa_cons (pv 3) pa_nil)) (nomark _))))) (pss_one (ps_ret pe_bl)) pss_nil)
      (pss_cons (ps_set (i := 4) sc_law.nd rfl (Or.inl rfl) (pe_tup (pa_cons pe_str (pa_cons (pe_tup (pa_cons (pe_ix ix_tup (pv 3) pe_int (fun _ _ => rfl)) (pa_cons (pe_tup (pa_cons pe_str pa_nil)) pa_nil))) pa_nil))))
      (pss_one (ps_if (PW.pt (pw_or (pt_cmpR op_ne (pe_call (E := E0) (ok_size T tb) (hr.mono (by decide)) (by rfl) T.d_size.g T.d_size.F.kp T.d_size.b .nil (passes_call takes_none5 fun _ _ _ _ h => h) (pa_cons (pe_op op_catT (pe_tup (pa_cons (pe_tup (pa_cons pe_str pa_nil)) pa_nil)) (pe_slice sl_tupA (pv 3) po_none (po_some pe_int))) pa_nil)) (pe_call (ok__law_size_of T) (hr.mono (by decide)) (by rfl) T.d__law_size_of.g T.d__law_size_of.F.kp T.d__law_size_of.b .nil pass0 (pa_cons (pe_slice sl_tupA (pv 3) po_none (po_some pe_int)) pa_nil)) (nomark _)) (pw_or1 (pt_cmpR op_ne (pe_call (E := E0) (ok_size T tb) (hr.mono (by decide)) (by rfl) T.d_size.g T.d_size.F.kp T.d_size.b .nil (passes_call takes_none5 fun _ _ _ _ h => h) (pa_cons (pe_tup (pa_cons (pv 4) pa_nil)) pa_nil)) (pe_call (ok__law_size T 5) (hr.mono (by decide)) (by rfl) T.d__law_size.g T.d__law_size.F.kp T.d__law_size.b .nil pass0 (pa_cons (pe_ix ix_tup (pv 3) pe_int (fun _ _ => rfl)) pa_nil)) (nomark _))))) (pss_one (ps_ret pe_bl)) pss_nil))))))
      (pss_cons (ps_set (i := 5) sc_law.nd rfl (Or.inr rfl) (pe_tup (pa_cons pe_str (pa_cons (pe_tup (pa_cons pe_int (pa_cons pe_int pa_nil))) (pa_cons (pe_tup (pa_cons (pe_tup (pa_cons (pe_tup (pa_cons pe_int (pa_cons pe_int pa_nil))) (pa_cons (pe_tup (pa_cons pe_str pa_nil)) pa_nil))) pa_nil)) pa_nil)))))
      (pss_cons (ps_set (i := 6) sc_law.nd rfl (Or.inl rfl) (pe_callTy call_tuple_of (by rfl) T.n_tuple (by decide +kernel) (pa_cons (pe_lc (own := [("_law_turn", 2)]) (g := gName 2) (tt := tYes) rfl sc_law.nd (pi_range1 (by rfl) T.n_range (pa_cons pe_int pa_nil)) (blkOk_by (own := [("_law_turn", 2)]) (N := n_law) (sc := defScope s_law) (by decide +kernel)) (fun _ _ _ _ _ => pg_name (i := 2) sc_law.nd rfl (Or.inl rfl)) (fun _ _ _ _ _ => pts_nil) (fun _ _ _ _ _ => (pe_tup (pa_cons pe_str (pa_cons (pe_tup (pa_cons (pv 5) (pa_cons (pv 5) (pa_cons (pv 5) pa_nil)))) pa_nil))))) pa_nil)))
      (pss_cons (ps_if (PW.pt (pw_or (pt_cmpR op_ne (pe_call (E := E0) (ok_size T tb) (hr.mono (by decide)) (by rfl) T.d_size.g T.d_size.F.kp T.d_size.b .nil (passes_call takes_none5 fun _ _ _ _ h => h) (pa_cons (pv 6) pa_nil)) pe_int (nomark _)) (pw_or (pt_cmpR op_ne (pe_call (E := E0) (ok_size T tb) (hr.mono (by decide)) (by rfl) T.d_size.g T.d_size.F.kp T.d_size.b .nil (passes_call takes_none5 fun _ _ _ _ h => h) (pa_cons (pe_op op_repT (pe_tup (pa_cons (pv 5) pa_nil)) pe_int) pa_nil)) pe_int (nomark _)) (pw_or1 (pt_cmpR op_ne (pe_call (E := E0) (ok_size T tb) (hr.mono (by decide)) (by rfl) T.d_size.g T.d_size.F.kp T.d_size.b .nil (passes_call takes_none5 fun _ _ _ _ h => h) (pa_cons (pe_tup (pa_cons (pe_tup (pa_cons pe_str pa_nil)) pa_nil)) pa_nil)) pe_int (nomark _)))))) (pss_one (ps_ret pe_bl)) pss_nil)
      (pss_cons (ps_set (i := 7) sc_law.nd rfl (Or.inl rfl) (pe_lstN (pa_cons pe_non (pa_cons (pe_tup pa_nil) (pa_cons (pe_lstN (pa_cons (pe_ix ix_tup (pv 3) pe_int (fun _ _ => rfl)) pa_nil)) (pa_cons (pe_ix ix_tup (pv 3) pe_int (fun _ _ => rfl)) (pa_cons (pe_tup (pa_cons pe_non pa_nil)) (pa_cons (pe_op op_repT (pe_tup (pa_cons (pe_tup (pa_cons pe_str pa_nil)) pa_nil)) pe_int) (pa_cons (pe_op op_catT (pv 6) (pe_tup (pa_cons (pv 5) pa_nil))) (pa_cons (pe_tup (pa_cons (pe_tup (pa_cons pe_str (pa_cons (pe_tup (pa_cons pe_int (pa_cons pe_int pa_nil))) pa_nil))) pa_nil)) (pa_cons (pe_tup (pa_cons (pe_tup (pa_cons pe_str (pa_cons pe_int pa_nil))) pa_nil)) pa_nil)))))))))))
      (pss_one (ps_ret (pe_cmpR (op_eqD hr.units) (pe_lc (own := [("_law_odd", 8)]) (g := gName 8) rfl sc_law.nd (pi_list (pv 7)) (blkOk_by (own := [("_law_odd", 8)]) (N := n_law) (sc := defScope s_law) (by decide +kernel)) (fun _ _ _ _ _ => pg_name (i := 8) sc_law.nd rfl (Or.inl rfl)) (fun _ _ _ _ _ => pts_one (pt_not (pt_val (pe_callG (ok__law_is_refused T tb) gd (hr.mono (by decide)) (by rfl) T.d__law_is_refused.g T.d__law_is_refused.F.kp T.d__law_is_refused.b (pa_cons (pv 8) pa_nil))))) (fun _ _ _ _ _ => pe_int)) (pe_lstN pa_nil) (nomark _)))))))))), ?_⟩
    refine ⟨.ref a, rfl, a, ns, rfl, hS, hl, fun p c H1 ex1 hp nf => ?_⟩
    refine ⟨4, rfl, by decide, by decide, ?_⟩
    refine for_range (lo := 0) (n := 4) (fun i σ H' => (∃ (y2 y3 y4 y5 y6 y7 y8 : Option V), σ = [some (.ref a), some (.ref p), y2, y3, y4, y5, y6, y7, y8] ∧ (0 < i → ∃ (v : V) (d : PyData) (dr : List PyData) (S N n : Nat), y3 = some v ∧ Dq K p H' v (.tuple (d :: dr)) ∧ Tm 4 d S N n ∧ noL d = true)) ∧ Pen H' p c (1100 * i) ∧ GxR.TabG H' T.P_has_form_of_step) ⟨⟨none, none, none, none, none, none, none, rfl, fun z => absurd z (Nat.lt_irrefl _)⟩, hp, tab_ex ht ex1⟩ ?_ ?_
    · rintro i σ H' hi ⟨⟨y2, y3, y4, y5, y6, y7, y8, rfl, _⟩, hp', ht'⟩
      refine n_name ?_
      dsimp only
      obtain ⟨x0, hx0⟩ := hp'.hasP
      refine n_seq ?_
      refine ⟨.ref p, rfl, .ref p, rfl, p, c, 4, _, rfl, hp', by decide, by decide, by omega, fun r H2 r0 r4 eb2 hp2 => ?_⟩
      obtain ⟨x2, hx2⟩ := hp2.hasP
      refine ⟨.ref p, rfl, 10, 6, rfl, rfl, ⟨by decide, by decide, by decide⟩, by show 3 ≤ sizeLine; decide, fun l fl _ => ?_⟩
      refine ⟨p, c, l, _, _, rfl, hp2.ex (Ex.new fl), upd_same, (ne_of_none hx2 fl).symm, by show 0 < 3; decide, by show 3 < 1073741824; decide, by omega, fun x H3 hx eb3 hp3 => ?_⟩
      obtain ⟨m, rfl⟩ : ∃ m : Int, x = .int m := by
        simp only [List.mem_cons, List.not_mem_nil, or_false] at hx
        rcases hx with rfl | rfl | rfl <;> exact ⟨_, rfl⟩
      refine ⟨p, c, r, m, _, rfl, r0, r4, hp3, by omega, fun v ds ns H4 eb4 hp4 qv htm h1 h4 nl => ?_⟩
      have ebA : ExB p H' H4 := eb2.trans ((Ex.b (Ex.new fl)).trans (eb3.trans eb4))
      have ht4 := tab_exb ht' hx0 ebA
      obtain ⟨S, M, ta, hS10, hM40⟩ := htm
      have dm : DMix ds ns := ⟨h1, h4, ⟨S, M, tma_up (tm_up 4) ta, by omega, by omega⟩, nl⟩
      obtain ⟨b, xs, rfl, hSx, hA⟩ := qv.seq
      dsimp only
      refine n_seq ?_
      refine ⟨.ref b, rfl, p, .ref b, .tuple ds, true, rfl, qv, dm.isMix, ht4, (fun _ => ⟨ds, ns, rfl, dm.sz.2, dm.small, dm.four, fun H5 eb5 ht5 => ?_⟩), fun z => nomatch z⟩
      have qv5 := Dq.tb ht4 eb5 _ _ qv
      refine ⟨.ref b, rfl, p, .ref b, ds, ns, rfl, qv5, dm.sz.1, dm.small, fun H6 e6 => ?_⟩
      refine ⟨rfl, _, rfl, ifF (dec_ne rfl) ?_⟩
      have ht6 := tab_ex ht5 e6
      have qv6 := Dq.ex e6 _ _ qv5
      have hS6 := ex_t e6 (tb_t ht4 eb5 hSx)
      have hA6 := DqAll.ex e6 _ _ (DqAll.tb ht4 eb5 _ _ hA)
      refine ⟨.ref b, rfl, b, xs, rfl, hS6, fun t ft => ?_⟩
      have x7 := Ex.new (o := .tup xs.reverse) ft
      refine ⟨p, .ref t, .tuple ds.reverse, true, rfl, .tup (SqT.of upd_same) (DqAll.ex x7 _ _ hA6.rev), dm.rev.isMix, tab_ex ht6 x7, (fun _ => ⟨_, _, rfl, dm.rev.sz.2, dm.rev.small, dm.rev.four, fun H8 eb8 ht8 => ?_⟩), fun z => nomatch z⟩
      have qv8 := Dq.tb (tab_ex ht6 x7) eb8 _ _ (Dq.ex x7 _ _ qv6)
      refine ⟨.ref b, rfl, p, .ref b, .tuple ds, true, rfl, qv8, dm.isMix, ht8, (fun _ => ⟨ds, ns, rfl, dm.sz.2, dm.small, dm.four, fun H9 eb9 ht9 => ?_⟩), fun z => nomatch z⟩
      refine ⟨rfl, _, rfl, ifF (dec_ne (by rw [prod_rev])) ?_⟩
      refine n_next ?_
      dsimp only
      have qv9 := Dq.tb ht8 eb9 _ _ qv8
      have hp9 : Pen H9 p c (1100 * i + 1002) := (((((hp4.tb ht4 eb5).ex e6).ex x7).tb (tab_ex ht6 x7) eb8).tb ht8 eb9).mono (by omega)
      have hS9 := tb_t ht8 eb9 (tb_t (tab_ex ht6 x7) eb8 (ex_t x7 hS6))
      have hA9 := DqAll.tb ht8 eb9 _ _ (DqAll.tb (tab_ex ht6 x7) eb8 _ _ (DqAll.ex x7 _ _ hA6))
      cases ta with
      | nil => exact absurd h1 (by decide)
      | @cons _ S0 N0 S1 N1 n0 d0 dr nr t0 tr =>
      have nl0 : noL d0 = true := noLA_mem nl List.mem_cons_self
      refine n_seq ?_
      refine s_asgP (ed_tup (K := K) (p := p) (eds_cons ed_str (eds_cons (ed_tup (eds_cons (ed_ix (j := 0) (dj := d0) rfl qv9 rfl) (eds_cons (ed_tup (eds_cons ed_str eds_nil) (by show 1 ≤ 1000; decide)) eds_nil)) (by show 2 ≤ 1000; decide)) eds_nil)) (by show 2 ≤ 1000; decide)) fun z HA eA qz => ?_
      dsimp only
      have htA := tab_ex ht9 eA
      have dmM : DMix [.tuple [.str "all", .tuple [d0, dE]]] [prodN [n0, 1]] := by
        refine ⟨by show 1 ≤ 1; decide, by show 1 ≤ 4; decide, ⟨_, _, .cons (.al (.cons t0 (.cons .e .nil)) (by show 2 ≤ 2; decide) (by show 2 ≤ 3; decide)) .nil, by omega, by omega⟩, ?_⟩
        have sA : strS "all" = true := by decide +kernel
        have nE : noL dE = true := by decide +kernel
        simp [noL, noLA, nl0, sA, nE]
      have dmT : DMix (dE :: (d0 :: dr).take 3) (1 :: (n0 :: nr).take 3) := by
        obtain ⟨S', N', tt, hs', hn'⟩ := tma_take 3 (TmA.cons t0 tr)
        refine ⟨Nat.succ_le_succ (Nat.zero_le _), by rw [List.length_cons, List.length_take]; omega, ⟨_, _, tma_up (tm_up 4) (.cons .e tt), by omega, by omega⟩, ?_⟩
        have nE : noL dE = true := by decide +kernel
        have := noLA_of (ds := (d0 :: dr).take 3) fun d hd => noLA_mem nl (List.mem_of_mem_take hd)
        simp only [noLA, nE, this, Bool.and_self]
      have dmC : SzA 5 ((d0 :: dr).take 3) ((n0 :: nr).take 3) ∧ SmallP ((n0 :: nr).take 3) := by
        obtain ⟨S', N', tt, hs', hn'⟩ := tma_take 3 (TmA.cons t0 tr)
        exact ⟨tma_sz (by decide) (tma_up (tm_up 4) tt), small_of (tma_up (tm_up 4) tt) (by rw [List.length_take]; omega)⟩
      have xne : xs.take 3 ≠ [] := by
        have := hA.len
        cases xs with
        | nil => cases this
        | cons _ _ => simp
      have xl : xs.length ≤ 4 := by rw [hA.len]; exact h4
      refine ⟨by show 1 ≤ sizeLine; decide, fun t1 f1 => ⟨by show 1 ≤ sizeLine; decide, fun t2 f2 => ?_⟩⟩
      have xB := (Ex.new (o := .tup [.str "end"]) f1).trans (Ex.new (o := .tup [.ref t1]) f2)
      refine rd_cut3 rfl (ex_t (eA.trans xB) hS9) fun u HB eB hu => ?_
      have e2 := eA.trans (xB.trans eB)
      have st2 : SqT K HB t2 [.ref t1] := ex_t eB (SqT.of upd_same)
      have st1 : SqT K HB t1 [.str "end"] := ex_t ((Ex.new (o := .tup [.ref t1]) f2).trans eB) (SqT.of upd_same)
      refine ⟨t2, u, [.ref t1], xs.take 3, rfl, rfl, st2, hu, by simp, Nat.le_of_lt (small1000 (by rw [List.length_take]; show 1 + _ ≤ 1000; omega)), fun z => absurd z xne, fun _ t3 f3 => ?_⟩
      have x3 := Ex.new (o := .tup ([.ref t1] ++ xs.take 3)) f3
      have htC := tab_ex htA ((xB.trans eB).trans x3)
      refine ⟨p, .ref t3, .tuple (dE :: (d0 :: dr).take 3), true, rfl, .tup (SqT.of upd_same) (.cons (.tup (ex_t x3 st1) (.cons (.str _) .nil)) (DqAll.ex (e2.trans x3) _ _ (hA9.cut 3))), dmT.isMix, htC, (fun _ => ⟨_, _, rfl, dmT.sz.2, dmT.small, dmT.four, fun HD ebD htD => ?_⟩), fun z => nomatch z⟩
      refine rd_cut3 rfl (tb_t htC ebD (ex_t (e2.trans x3) hS9)) fun u2 HE eE hu2 => ?_
      have htE := tab_ex htD eE
      have hAE := DqAll.ex eE _ _ (DqAll.tb htC ebD _ _ (DqAll.ex (e2.trans x3) _ _ hA9))
      refine ⟨p, .ref u2, (d0 :: dr).take 3, (n0 :: nr).take 3, rfl, .tup hu2 (hAE.cut 3), dmC.1, dmC.2, fun HF eF => ?_⟩
      refine ⟨rfl, _, rfl, ifF (dec_ne (by show ((1 * prodN ((n0 :: nr).take 3) : Nat) : Int) = _; rw [Nat.one_mul])) ?_⟩
      have htF := tab_ex htE eF
      have qzF := Dq.ex (eE.trans eF) _ _ (Dq.tb htC ebD _ _ (Dq.ex ((xB.trans eB).trans x3) _ _ qz))
      refine ⟨_, rfl, by show 1 ≤ sizeLine; decide, fun t4 f4 => ?_⟩
      have x4 := Ex.new (o := .tup [z]) f4
      refine ⟨p, .ref t4, .tuple [.tuple [.str "all", .tuple [d0, dE]]], true, rfl, .tup (SqT.of upd_same) (.cons (Dq.ex x4 _ _ qzF) .nil), dmM.isMix, tab_ex htF x4, (fun _ => ⟨_, _, rfl, dmM.sz.2, dmM.small, dmM.four, fun HG ebG htG => ?_⟩), fun z => nomatch z⟩
      have qvG : Dq K p HG (.ref b) (.tuple (d0 :: dr)) := Dq.tb (tab_ex htF x4) ebG _ _ (Dq.ex ((eE.trans eF).trans x4) _ _ (Dq.tb htC ebD _ _ (Dq.ex (e2.trans x3) _ _ qv9)))
      refine ed_ix (K := K) (p := p) (j := 0) (dj := d0) rfl qvG rfl HG (Ex.refl _) _ fun y HI eI qy => ?_
      refine ⟨p, y, d0, n0, rfl, qy, sz_step 4 (tm_size 4 (by decide) t0), fun HJ eJ => ?_⟩
      refine ⟨rfl, _, rfl, ifF (dec_ne (by show ((n0 * (1 * 1) * 1 : Nat) : Int) = _; omega)) ?_⟩
      refine n_next ?_
      dsimp only
      refine ⟨⟨_, _, _, _, _, _, _, rfl, fun _ => ⟨.ref b, d0, dr, S0, N0, n0, rfl, Dq.ex (eI.trans eJ) _ _ qvG, t0, nl0⟩⟩, ?_, tab_ex htG (eI.trans eJ)⟩
      have hpD : Pen HD p c (1100 * i + 1002) := (((hp9.ex e2).ex x3).tb htC ebD)
      exact (((((hpD.ex eE).ex eF).ex x4).tb (tab_ex htF x4) ebG).ex (eI.trans eJ)).mono (by omega)
    · rintro σ H' ⟨⟨y2, y3, y4, y5, y6, y7, y8, rfl, hy⟩, hp', ht'⟩
      obtain ⟨v, d0, dr, S, N, n, rfl, qv, t0, nl0⟩ := hy (by decide)
      obtain ⟨x0, hx0⟩ := hp'.hasP
      refine n_seq ?_
      refine s_asgP (ed_tup (K := K) (p := p) (ds := [.str "step", .tuple [.int 1, .int 1], .tuple [.tuple [.tuple [.int 1, .int 1], dE]]]) (eds_cons ed_str (eds_cons (ed_tup (eds_cons ed_int (eds_cons ed_int eds_nil)) (by decide)) (eds_cons (ed_tup (eds_cons (ed_tup (eds_cons (ed_tup (eds_cons ed_int (eds_cons ed_int eds_nil)) (by decide)) (eds_cons ed_E eds_nil)) (by decide)) eds_nil) (by decide)) eds_nil))) (by decide)) fun bv H1 e1 qb => ?_
      dsimp only
      have ht1 := tab_ex ht' e1
      refine n_seq ?_
      refine ⟨4, rfl, by decide, by decide, fun D nD => ?_⟩
      refine lc_range (lo := 0) (n := 4) (fun j G => Ex H1 G ∧ ∃ zs, G D = some (.lst zs) ∧ zs.length = j ∧ DqAll K p G zs (List.replicate j dA)) ⟨Ex.new nD, [], upd_same, rfl, .nil⟩ ?_ ?_
      · rintro j G hj ⟨exG, zs, hz, hzl, qs⟩
        refine ⟨rfl, ?_⟩
        refine yes_of ?_
        rw [if_pos rfl]
        have qB : Dq K p G bv dB := Dq.ex exG _ _ qb
        refine (ed_tup (K := K) (p := p) (eds_cons ed_str (eds_cons (ed_tup (eds_cons (ed_var rfl qB) (eds_cons (ed_var rfl qB) (eds_cons (ed_var rfl qB) eds_nil))) (by show 3 ≤ 1000; decide)) eds_nil)) (by show 2 ≤ 1000; decide)) G (Ex.refl _) _ fun y G2 e2 q2 => ?_
        have nr : noLA (List.replicate j dA) = true := noLA_of fun d hd => by
          rw [List.eq_of_mem_replicate hd]
          decide +kernel
        have nA : noL dA = true := by decide +kernel
        have hz2 := e2 _ _ hz
        have up : ExB D G2 (upd G2 D (.lst (zs ++ [y]))) := ExB.upd (ExB.refl D _)
        refine ⟨zs, hz2, small1000 (by omega), Ex.mut (exG.trans e2) nD, zs ++ [y], upd_same, by rw [List.length_append, hzl]; rfl, ?_⟩
        rw [List.replicate_succ']
        exact (DqAll.nl hz2 up _ _ nr (DqAll.ex e2 _ _ qs)).append (.cons (Dq.nl hz2 up _ _ nA q2) .nil)
      · rintro G ⟨exG, zs, hz, hzl, qs⟩
        refine ⟨D, zs, rfl, .inl ⟨SqL.of hz, fun t ft => ?_⟩⟩
        have x2 := exG.trans (Ex.new (o := .tup zs) ft)
        generalize hG2 : upd G t (.tup zs) = G2 at x2
        have qW : Dq K p G2 (.ref t) (.tuple [dA, dA, dA, dA]) := by
          rw [← hG2]
          exact .tup (SqT.of upd_same) (DqAll.ex (Ex.new ft) _ _ qs)
        have qB := Dq.ex x2 _ _ qb
        have qv2 := Dq.ex (e1.trans x2) _ _ qv
        have ht2 := tab_ex ht1 x2
        have hx2 := x2 _ _ (e1 _ _ hx0)
        dsimp only
        refine n_seq ?_
        refine ⟨.ref t, rfl, p, .ref t, .tuple [dA, dA, dA, dA], true, rfl, qW, dm_W.isMix, ht2, (fun _ => ⟨_, _, rfl, dm_W.sz.2, dm_W.small, dm_W.four, fun H3 eb3 ht3 => ?_⟩), fun z => nomatch z⟩
        refine ⟨rfl, _, rfl, ifF (dec_ne (by decide)) ?_⟩
        refine ed_rep4 (K := K) (p := p) (ed_var rfl (Dq.tb ht2 eb3 _ _ qB)) H3 (Ex.refl _) _ fun y H4 e4 q4 => ?_
        refine ⟨p, y, _, true, rfl, q4, dm_F.isMix, tab_ex ht3 e4, (fun _ => ⟨_, _, rfl, dm_F.sz.2, dm_F.small, dm_F.four, fun H5 eb5 ht5 => ?_⟩), fun z => nomatch z⟩
        refine ⟨rfl, _, rfl, ifF (dec_ne (by decide)) ?_⟩
        refine ⟨by show 1 ≤ sizeLine; decide, fun t1 f1 => ⟨by show 1 ≤ sizeLine; decide, fun t2 f2 => ?_⟩⟩
        have e6 := (Ex.new (o := .tup [.str "end"]) f1).trans (Ex.new (o := .tup [.ref t1]) f2)
        have q6 : Dq K p (upd (upd H5 t1 (.tup [.str "end"])) t2 (.tup [.ref t1])) (.ref t2) (.tuple [dE]) := .tup (SqT.of upd_same) (.cons (.tup (ex_t (Ex.new f2) (SqT.of upd_same)) (.cons (.str _) .nil)) .nil)
        refine ⟨p, .ref t2, .tuple [dE], true, rfl, q6, dm_E.isMix, tab_ex ht5 e6, (fun _ => ⟨_, _, rfl, dm_E.sz.2, dm_E.small, dm_E.four, fun H7 eb7 ht7 => ?_⟩), fun z => nomatch z⟩
        refine ⟨rfl, _, rfl, ifF (dec_ne (by decide)) ?_⟩
        refine n_next ?_
        dsimp only
        have go : ∀ {v : V} {d : PyData}, Dq K p G2 v d → Dq K p H7 v d := fun q => Dq.tb (tab_ex ht5 e6) eb7 _ _ (Dq.ex e6 _ _ (Dq.tb (tab_ex ht3 e4) eb5 _ _ (Dq.ex e4 _ _ (Dq.tb ht2 eb3 _ _ q))))
        have hx7 : H7 p = some (.lst x0) := by
          have h3 := eb3 _ _ (tab_ne ht2 hx2 fun _ z => nomatch z) hx2
          have h4 := e4 _ _ h3
          have h5 := eb5 _ _ (tab_ne (tab_ex ht3 e4) h4 fun _ z => nomatch z) h4
          have h6 := e6 _ _ h5
          exact eb7 _ _ (tab_ne (tab_ex ht5 e6) h6 fun _ z => nomatch z) h6
        have qv7 := go qv2
        have qB7 := go qB
        have qW7 := go qW
        refine n_seq ?_
        refine s_asgP (el_lst (K := K) (p := p) (ds := dO d0) hx7 (eds_cons ed_none (eds_cons (ed_tup eds_nil (by decide)) (eds_cons (ed_lst hx7 (eds_cons (ed_ix (j := 0) (dj := d0) rfl qv7 rfl) eds_nil) (by show 1 ≤ 1000; decide)) (eds_cons (ed_ix (j := 0) (dj := d0) rfl qv7 rfl) (eds_cons (ed_tup (eds_cons ed_none eds_nil) (by decide))
          (eds_cons (ed_rep5 ed_E) (eds_cons (ed_catT (ds := [dA, dA, dA, dA]) (es := [dB]) (ed_var rfl qW7) (ed_tup (eds_cons (ed_var rfl qB7) eds_nil) (by decide)) (by simp) (by simp) (by decide)) (eds_cons (ed_tup (eds_cons (ed_tup (eds_cons ed_str (eds_cons (ed_tup (eds_cons ed_int (eds_cons ed_int eds_nil)) (by decide)) eds_nil)) (by decide)) eds_nil) (by decide))
          (eds_cons (ed_tup (eds_cons (ed_tup (eds_cons ed_str (eds_cons ed_int eds_nil)) (by decide)) eds_nil) (by decide)) eds_nil))))))))) (by show 9 ≤ 900; decide)) fun lv H8 e8 ql => ?_
        obtain ⟨l, vs, rfl, nlp, _, hl8, qs8⟩ := ql
        have ht8 := tab_ex ht7 e8
        dsimp only
        refine ⟨.ref l, rfl, l, rfl, ⟨_, SqL.of hl8⟩, fun D2 nD2 => ?_⟩
        refine lc_list (K := K) (a := l) (xs := vs) (fun i G => ExB T.P_has_form_of_step H8 G ∧ GxR.TabG G T.P_has_form_of_step ∧ G D2 = some (.lst [])) ⟨Ex.b (Ex.new nD2), tab_ex ht8 (Ex.new nD2), upd_same⟩ (fun i G _ h => tb_l ht8 h.1 (SqL.of hl8)) ?_ ?_
        · rintro i x G9 hx ⟨ebG, htG, hD⟩
          have il : i < vs.length := (List.getElem?_eq_some_iff.mp hx).1
          obtain ⟨di, hdi⟩ : ∃ di, (dO d0)[i]? = some di := ⟨_, List.getElem?_eq_getElem (by rw [← qs8.len]; exact il)⟩
          obtain ⟨x', hx', qx⟩ := qs8.get hdi
          rw [hx] at hx'
          cases hx'
          obtain ⟨b1, b2⟩ := bad_O t0 nl0 di (List.mem_of_getElem? hdi)
          refine ⟨rfl, ?_⟩
          refine ⟨x, rfl, p, x, di, rfl, Dq.tb ht8 ebG _ _ qx, b1, htG, b2, fun G10 eb10 ht10 => ⟨true, rfl, ?_⟩⟩
          refine ifF rfl ?_
          exact ⟨ebG.trans eb10, ht10, eb10 _ _ (tab_ne htG hD fun _ z => nomatch z) hD⟩
        · rintro G9 ⟨ebG, htG, hD⟩
          refine ⟨by show 0 ≤ sizeLine; decide, fun l2 f2 _ => ?_⟩
          refine ⟨.list [], .list [], .lst (SqL.of ((Ex.new f2) _ _ hD)) .nil, .lst (SqL.of upd_same) .nil, rfl, rfl, ?_⟩
          have ev : PyData.eqv (.list []) (.list []) = true := by simp [PyData.eqv, PyData.eqvAll]
          rw [ev]
          exact k _
end
def CodeK (oc : Value) (vs : Array Value) (c P : Addr) : Prop := ∃ (file : Str) (tf : Tok) (flags : Int) (tg : Tok) (inF : Bool) (text : Int) (tt : Tok), oc = .type "code" ∧ vs.getD 11 .none = .ref P ∧ vs.getD 18 .none = .str file tf ∧
  vs.getD 7 .none = .int flags tg ∧ vs.getD 9 .none = .bool inF ∧ vs.getD 10 .none = .int text tt ∧ c ≠ P
theorem all_mk {l : PySem.W.OpenLaw} {w : World} {K : PySem.W.Frag} {h : Heap} {mg : Str → Option Value} {fa : Addr} (X : K.In h) (G : h.Ns mainGlobals mg) (hfa : mg "law" = some (.ref fa)) (hE : TabE K "has_form_of_step" mg h)
    {od1 an1 : Option Addr} {sl1 : Array (Option Value)} {oc1 kV1 dc1 pm1 cd1 ct1 : Value} {f1 : Addr}
    {od2 an2 : Option Addr} {sl2 : Array (Option Value)} {oc2 kV2 dc2 pm2 cd2 ct2 : Value} {f2 : Addr}
    {od3 an3 : Option Addr} {sl3 : Array (Option Value)} {oc3 kV3 dc3 pm3 cd3 ct3 : Value} {f3 : Addr}
    {od4 an4 : Option Addr} {sl4 : Array (Option Value)} {oc4 kV4 dc4 pm4 cd4 ct4 : Value} {f4 : Addr}
    {od5 an5 : Option Addr} {sl5 : Array (Option Value)} {oc5 kV5 dc5 pm5 cd5 ct5 : Value} {f5 : Addr}
    {od6 an6 : Option Addr} {sl6 : Array (Option Value)} {oc6 kV6 dc6 pm6 cd6 ct6 : Value} {f6 : Addr}
    {od7 an7 : Option Addr} {sl7 : Array (Option Value)} {oc7 kV7 dc7 pm7 cd7 ct7 : Value} {f7 : Addr}
    {od8 an8 : Option Addr} {sl8 : Array (Option Value)} {oc8 kV8 dc8 pm8 cd8 ct8 : Value} {f8 : Addr}
    {od9 an9 : Option Addr} {sl9 : Array (Option Value)} {oc9 kV9 dc9 pm9 cd9 ct9 : Value} {f9 : Addr}
    {od10 an10 : Option Addr} {sl10 : Array (Option Value)} {oc10 kV10 dc10 pm10 cd10 ct10 : Value} {f10 : Addr}
    {od11 an11 : Option Addr} {sl11 : Array (Option Value)} {oc11 kV11 dc11 pm11 cd11 ct11 : Value} {f11 : Addr}
    {od12 an12 : Option Addr} {sl12 : Array (Option Value)} {oc12 kV12 dc12 pm12 cd12 ct12 : Value} {f12 : Addr}
    {od13 an13 : Option Addr} {sl13 : Array (Option Value)} {oc13 kV13 dc13 pm13 cd13 ct13 : Value} {f13 : Addr}
    {od14 an14 : Option Addr} {sl14 : Array (Option Value)} {oc14 kV14 dc14 pm14 cd14 ct14 : Value} {f14 : Addr}
    {od15 an15 : Option Addr} {sl15 : Array (Option Value)} {oc15 kV15 dc15 pm15 cd15 ct15 : Value} {f15 : Addr}
    {od16 an16 : Option Addr} {sl16 : Array (Option Value)} {oc16 kV16 dc16 pm16 cd16 ct16 : Value} {f16 : Addr}
    {od17 an17 : Option Addr} {sl17 : Array (Option Value)} {oc17 kV17 dc17 pm17 cd17 ct17 : Value} {f17 : Addr}
    {od18 an18 : Option Addr} {sl18 : Array (Option Value)} {oc18 kV18 dc18 pm18 cd18 ct18 : Value} {f18 : Addr}
    {od19 an19 : Option Addr} {sl19 : Array (Option Value)} {oc19 kV19 dc19 pm19 cd19 ct19 : Value} {f19 : Addr}
    {od20 an20 : Option Addr} {sl20 : Array (Option Value)} {oc20 kV20 dc20 pm20 cd20 ct20 : Value} {f20 : Addr}
    {od21 an21 : Option Addr} {sl21 : Array (Option Value)} {oc21 kV21 dc21 pm21 cd21 ct21 : Value} {f21 : Addr}
    {od22 an22 : Option Addr} {sl22 : Array (Option Value)} {oc22 kV22 dc22 pm22 cd22 ct22 : Value} {f22 : Addr}
    {od23 an23 : Option Addr} {sl23 : Array (Option Value)} {oc23 kV23 dc23 pm23 cd23 ct23 : Value} {f23 : Addr}
    {od24 an24 : Option Addr} {sl24 : Array (Option Value)} {oc24 kV24 dc24 pm24 cd24 ct24 : Value} {f24 : Addr}
    {od25 an25 : Option Addr} {sl25 : Array (Option Value)} {oc25 kV25 dc25 pm25 cd25 ct25 : Value} {f25 : Addr}
    {od26 an26 : Option Addr} {sl26 : Array (Option Value)} {oc26 kV26 dc26 pm26 cd26 ct26 : Value} {f26 : Addr}
    {od27 an27 : Option Addr} {sl27 : Array (Option Value)} {oc27 kV27 dc27 pm27 cd27 ct27 : Value} {f27 : Addr}
    {od28 an28 : Option Addr} {sl28 : Array (Option Value)} {oc28 kV28 dc28 pm28 cd28 ct28 : Value} {f28 : Addr}
    {od29 an29 : Option Addr} {sl29 : Array (Option Value)} {oc29 kV29 dc29 pm29 cd29 ct29 : Value} {f29 : Addr}
    {od30 an30 : Option Addr} {sl30 : Array (Option Value)} {oc30 kV30 dc30 pm30 cd30 ct30 : Value} {f30 : Addr}
    {od31 an31 : Option Addr} {sl31 : Array (Option Value)} {oc31 kV31 dc31 pm31 cd31 ct31 : Value} {f31 : Addr}
    {aN : Addr} {ddN : Option Addr} {tN : Tok} {nN : Nat} {slN : Array (Option Value)}
    {tMOST_STEPS : Tok}
    {tMOST_PARTS : Tok}
    {tMOST_TERMS : Tok}
    {tMOST_MIX_PARTS : Tok}
    {CM_ fM_ : Addr} {odM_ anM_ : Option Addr} {slM_ : Array (Option Value)} {ocM_ kVM_ dcM_ pmM_ cdM_ ctM_ : Value}
    {C_BadMix f_BadMix : Addr} {od_BadMix an_BadMix : Option Addr} {sl_BadMix : Array (Option Value)} {oc_BadMix kV_BadMix dc_BadMix pm_BadMix cd_BadMix ct_BadMix : Value}
    {cA PA : Addr} {ocA : Value} {ddA : Option Addr} {vsA : Array Value} {slA : Array (Option Value)}
    (a1 : PySem.W.nsIn K mainGlobals "is_whole" = some (some (.ref f1))) (l1 : K.lookup f1 = some ⟨oc1, od1, .func (PySem.W.fnOf "is_whole" "is_whole" (defArgs s_is_whole) (defBody s_is_whole) (defScope s_is_whole) .none kV1 dc1 pm1 an1 cd1 ct1), sl1⟩) (c1 : PySem.W.codeIn K cd1 "is_whole" = true) (k1 : PySem.W.keepIn K (.ref f1) = true)
    (a2 : PySem.W.nsIn K mainGlobals "is_fraction" = some (some (.ref f2))) (l2 : K.lookup f2 = some ⟨oc2, od2, .func (PySem.W.fnOf "is_fraction" "is_fraction" (defArgs s_is_fraction) (defBody s_is_fraction) (defScope s_is_fraction) .none kV2 dc2 pm2 an2 cd2 ct2), sl2⟩) (c2 : PySem.W.codeIn K cd2 "is_fraction" = true) (k2 : PySem.W.keepIn K (.ref f2) = true)
    (a3 : PySem.W.nsIn K mainGlobals "is_above_zero" = some (some (.ref f3))) (l3 : K.lookup f3 = some ⟨oc3, od3, .func (PySem.W.fnOf "is_above_zero" "is_above_zero" (defArgs s_is_above_zero) (defBody s_is_above_zero) (defScope s_is_above_zero) .none kV3 dc3 pm3 an3 cd3 ct3), sl3⟩) (c3 : PySem.W.codeIn K cd3 "is_above_zero" = true) (k3 : PySem.W.keepIn K (.ref f3) = true)
    (a4 : PySem.W.nsIn K mainGlobals "is_outcome" = some (some (.ref f4))) (l4 : K.lookup f4 = some ⟨oc4, od4, .func (PySem.W.fnOf "is_outcome" "is_outcome" (defArgs s_is_outcome) (defBody s_is_outcome) (defScope s_is_outcome) .none kV4 dc4 pm4 an4 cd4 ct4), sl4⟩) (c4 : PySem.W.codeIn K cd4 "is_outcome" = true) (k4 : PySem.W.keepIn K (.ref f4) = true)
    (a5 : PySem.W.nsIn K mainGlobals "has_form_of_step" = some (some (.ref f5))) (l5 : K.lookup f5 = some ⟨oc5, od5, .func (PySem.W.fnOf "has_form_of_step" "has_form_of_step" (defArgs s_has_form_of_step) (defBody s_has_form_of_step) (defScope s_has_form_of_step) .none kV5 dc5 pm5 an5 cd5 ct5), sl5⟩) (c5 : PySem.W.codeIn K cd5 "has_form_of_step" = true) (k5 : PySem.W.keepIn K (.ref f5) = true)
    (a6 : PySem.W.nsIn K mainGlobals "has_form_of_all" = some (some (.ref f6))) (l6 : K.lookup f6 = some ⟨oc6, od6, .func (PySem.W.fnOf "has_form_of_all" "has_form_of_all" (defArgs s_has_form_of_all) (defBody s_has_form_of_all) (defScope s_has_form_of_all) .none kV6 dc6 pm6 an6 cd6 ct6), sl6⟩) (c6 : PySem.W.codeIn K cd6 "has_form_of_all" = true) (k6 : PySem.W.keepIn K (.ref f6) = true)
    (a7 : PySem.W.nsIn K mainGlobals "has_form_of_term" = some (some (.ref f7))) (l7 : K.lookup f7 = some ⟨oc7, od7, .func (PySem.W.fnOf "has_form_of_term" "has_form_of_term" (defArgs s_has_form_of_term) (defBody s_has_form_of_term) (defScope s_has_form_of_term) .none kV7 dc7 pm7 an7 cd7 ct7), sl7⟩) (c7 : PySem.W.codeIn K cd7 "has_form_of_term" = true) (k7 : PySem.W.keepIn K (.ref f7) = true)
    (a8 : PySem.W.nsIn K mainGlobals "is_step" = some (some (.ref f8))) (l8 : K.lookup f8 = some ⟨oc8, od8, .func (PySem.W.fnOf "is_step" "is_step" (defArgs s_is_step) (defBody s_is_step) (defScope s_is_step) .none kV8 dc8 pm8 an8 cd8 ct8), sl8⟩) (c8 : PySem.W.codeIn K cd8 "is_step" = true) (k8 : PySem.W.keepIn K (.ref f8) = true)
    (a9 : PySem.W.nsIn K mainGlobals "children" = some (some (.ref f9))) (l9 : K.lookup f9 = some ⟨oc9, od9, .func (PySem.W.fnOf "children" "children" (defArgs s_children) (defBody s_children) (defScope s_children) .none kV9 dc9 pm9 an9 cd9 ct9), sl9⟩) (c9 : PySem.W.codeIn K cd9 "children" = true) (k9 : PySem.W.keepIn K (.ref f9) = true)
    (a10 : PySem.W.nsIn K mainGlobals "measure" = some (some (.ref f10))) (l10 : K.lookup f10 = some ⟨oc10, od10, .func (PySem.W.fnOf "measure" "measure" (defArgs s_measure) (defBody s_measure) (defScope s_measure) .none kV10 dc10 pm10 an10 cd10 ct10), sl10⟩) (c10 : PySem.W.codeIn K cd10 "measure" = true) (k10 : PySem.W.keepIn K (.ref f10) = true)
    (a11 : PySem.W.nsIn K mainGlobals "is_mix" = some (some (.ref f11))) (l11 : K.lookup f11 = some ⟨oc11, od11, .func (PySem.W.fnOf "is_mix" "is_mix" (defArgs s_is_mix) (defBody s_is_mix) (defScope s_is_mix) .none kV11 dc11 pm11 an11 cd11 ct11), sl11⟩) (c11 : PySem.W.codeIn K cd11 "is_mix" = true) (k11 : PySem.W.keepIn K (.ref f11) = true)
    (a12 : PySem.W.nsIn K mainGlobals "require_mix" = some (some (.ref f12))) (l12 : K.lookup f12 = some ⟨oc12, od12, .func (PySem.W.fnOf "require_mix" "require_mix" (defArgs s_require_mix) (defBody s_require_mix) (defScope s_require_mix) .none kV12 dc12 pm12 an12 cd12 ct12), sl12⟩) (c12 : PySem.W.codeIn K cd12 "require_mix" = true) (k12 : PySem.W.keepIn K (.ref f12) = true)
    (a13 : PySem.W.nsIn K mainGlobals "product_of" = some (some (.ref f13))) (l13 : K.lookup f13 = some ⟨oc13, od13, .func (PySem.W.fnOf "product_of" "product_of" (defArgs s_product_of) (defBody s_product_of) (defScope s_product_of) .none kV13 dc13 pm13 an13 cd13 ct13), sl13⟩) (c13 : PySem.W.codeIn K cd13 "product_of" = true) (k13 : PySem.W.keepIn K (.ref f13) = true)
    (a14 : PySem.W.nsIn K mainGlobals "size_of_term" = some (some (.ref f14))) (l14 : K.lookup f14 = some ⟨oc14, od14, .func (PySem.W.fnOf "size_of_term" "size_of_term" (defArgs s_size_of_term) (defBody s_size_of_term) (defScope s_size_of_term) .none kV14 dc14 pm14 an14 cd14 ct14), sl14⟩) (c14 : PySem.W.codeIn K cd14 "size_of_term" = true) (k14 : PySem.W.keepIn K (.ref f14) = true)
    (a15 : PySem.W.nsIn K mainGlobals "size_of_mix" = some (some (.ref f15))) (l15 : K.lookup f15 = some ⟨oc15, od15, .func (PySem.W.fnOf "size_of_mix" "size_of_mix" (defArgs s_size_of_mix) (defBody s_size_of_mix) (defScope s_size_of_mix) .none kV15 dc15 pm15 an15 cd15 ct15), sl15⟩) (c15 : PySem.W.codeIn K cd15 "size_of_mix" = true) (k15 : PySem.W.keepIn K (.ref f15) = true)
    (a16 : PySem.W.nsIn K mainGlobals "size" = some (some (.ref f16))) (l16 : K.lookup f16 = some ⟨oc16, od16, .func (PySem.W.fnOf "size" "size" (defArgs s_size) (defBody s_size) (defScope s_size) .none kV16 dc16 pm16 an16 cd16 ct16), sl16⟩) (c16 : PySem.W.codeIn K cd16 "size" = true) (k16 : PySem.W.keepIn K (.ref f16) = true)
    (a17 : PySem.W.nsIn K mainGlobals "_law_open" = some (some (.ref f17))) (l17 : K.lookup f17 = some ⟨oc17, od17, .func (PySem.W.fnOf "_law_open" "_law_open" (defArgs s__law_open) (defBody s__law_open) (defScope s__law_open) .none kV17 dc17 pm17 an17 cd17 ct17), sl17⟩) (c17 : PySem.W.codeIn K cd17 "_law_open" = true) (k17 : PySem.W.keepIn K (.ref f17) = true)
    (a18 : PySem.W.nsIn K mainGlobals "_law_spread" = some (some (.ref f18))) (l18 : K.lookup f18 = some ⟨oc18, od18, .func (PySem.W.fnOf "_law_spread" "_law_spread" (defArgs s__law_spread) (defBody s__law_spread) (defScope s__law_spread) .none kV18 dc18 pm18 an18 cd18 ct18), sl18⟩) (c18 : PySem.W.codeIn K cd18 "_law_spread" = true) (k18 : PySem.W.keepIn K (.ref f18) = true)
    (a19 : PySem.W.nsIn K mainGlobals "_law_take" = some (some (.ref f19))) (l19 : K.lookup f19 = some ⟨oc19, od19, .func (PySem.W.fnOf "_law_take" "_law_take" (defArgs s__law_take) (defBody s__law_take) (defScope s__law_take) .none kV19 dc19 pm19 an19 cd19 ct19), sl19⟩) (c19 : PySem.W.codeIn K cd19 "_law_take" = true) (k19 : PySem.W.keepIn K (.ref f19) = true)
    (a20 : PySem.W.nsIn K mainGlobals "_law_one_of" = some (some (.ref f20))) (l20 : K.lookup f20 = some ⟨oc20, od20, .func (PySem.W.fnOf "_law_one_of" "_law_one_of" (defArgs s__law_one_of) (defBody s__law_one_of) (defScope s__law_one_of) .none kV20 dc20 pm20 an20 cd20 ct20), sl20⟩) (c20 : PySem.W.codeIn K cd20 "_law_one_of" = true) (k20 : PySem.W.keepIn K (.ref f20) = true)
    (a21 : PySem.W.nsIn K mainGlobals "_law_fr" = some (some (.ref f21))) (l21 : K.lookup f21 = some ⟨oc21, od21, .func (PySem.W.fnOf "_law_fr" "_law_fr" (defArgs s__law_fr) (defBody s__law_fr) (defScope s__law_fr) .none kV21 dc21 pm21 an21 cd21 ct21), sl21⟩) (c21 : PySem.W.codeIn K cd21 "_law_fr" = true) (k21 : PySem.W.keepIn K (.ref f21) = true)
    (a22 : PySem.W.nsIn K mainGlobals "_law_weights" = some (some (.ref f22))) (l22 : K.lookup f22 = some ⟨oc22, od22, .func (PySem.W.fnOf "_law_weights" "_law_weights" (defArgs s__law_weights) (defBody s__law_weights) (defScope s__law_weights) .none kV22 dc22 pm22 an22 cd22 ct22), sl22⟩) (c22 : PySem.W.codeIn K cd22 "_law_weights" = true) (k22 : PySem.W.keepIn K (.ref f22) = true)
    (a23 : PySem.W.nsIn K mainGlobals "_law_pay" = some (some (.ref f23))) (l23 : K.lookup f23 = some ⟨oc23, od23, .func (PySem.W.fnOf "_law_pay" "_law_pay" (defArgs s__law_pay) (defBody s__law_pay) (defScope s__law_pay) .none kV23 dc23 pm23 an23 cd23 ct23), sl23⟩) (c23 : PySem.W.codeIn K cd23 "_law_pay" = true) (k23 : PySem.W.keepIn K (.ref f23) = true)
    (a24 : PySem.W.nsIn K mainGlobals "_law_term" = some (some (.ref f24))) (l24 : K.lookup f24 = some ⟨oc24, od24, .func (PySem.W.fnOf "_law_term" "_law_term" (defArgs s__law_term) (defBody s__law_term) (defScope s__law_term) .none kV24 dc24 pm24 an24 cd24 ct24), sl24⟩) (c24 : PySem.W.codeIn K cd24 "_law_term" = true) (k24 : PySem.W.keepIn K (.ref f24) = true)
    (a25 : PySem.W.nsIn K mainGlobals "_law_steps" = some (some (.ref f25))) (l25 : K.lookup f25 = some ⟨oc25, od25, .func (PySem.W.fnOf "_law_steps" "_law_steps" (defArgs s__law_steps) (defBody s__law_steps) (defScope s__law_steps) .none kV25 dc25 pm25 an25 cd25 ct25), sl25⟩) (c25 : PySem.W.codeIn K cd25 "_law_steps" = true) (k25 : PySem.W.keepIn K (.ref f25) = true)
    (a26 : PySem.W.nsIn K mainGlobals "_law_size" = some (some (.ref f26))) (l26 : K.lookup f26 = some ⟨oc26, od26, .func (PySem.W.fnOf "_law_size" "_law_size" (defArgs s__law_size) (defBody s__law_size) (defScope s__law_size) .none kV26 dc26 pm26 an26 cd26 ct26), sl26⟩) (c26 : PySem.W.codeIn K cd26 "_law_size" = true) (k26 : PySem.W.keepIn K (.ref f26) = true)
    (a27 : PySem.W.nsIn K mainGlobals "_law_size_of" = some (some (.ref f27))) (l27 : K.lookup f27 = some ⟨oc27, od27, .func (PySem.W.fnOf "_law_size_of" "_law_size_of" (defArgs s__law_size_of) (defBody s__law_size_of) (defScope s__law_size_of) .none kV27 dc27 pm27 an27 cd27 ct27), sl27⟩) (c27 : PySem.W.codeIn K cd27 "_law_size_of" = true) (k27 : PySem.W.keepIn K (.ref f27) = true)
    (a28 : PySem.W.nsIn K mainGlobals "_law_parts" = some (some (.ref f28))) (l28 : K.lookup f28 = some ⟨oc28, od28, .func (PySem.W.fnOf "_law_parts" "_law_parts" (defArgs s__law_parts) (defBody s__law_parts) (defScope s__law_parts) .none kV28 dc28 pm28 an28 cd28 ct28), sl28⟩) (c28 : PySem.W.codeIn K cd28 "_law_parts" = true) (k28 : PySem.W.keepIn K (.ref f28) = true)
    (a29 : PySem.W.nsIn K mainGlobals "_law_mix" = some (some (.ref f29))) (l29 : K.lookup f29 = some ⟨oc29, od29, .func (PySem.W.fnOf "_law_mix" "_law_mix" (defArgs s__law_mix) (defBody s__law_mix) (defScope s__law_mix) .none kV29 dc29 pm29 an29 cd29 ct29), sl29⟩) (c29 : PySem.W.codeIn K cd29 "_law_mix" = true) (k29 : PySem.W.keepIn K (.ref f29) = true)
    (a30 : PySem.W.nsIn K mainGlobals "_law_is_refused" = some (some (.ref f30))) (l30 : K.lookup f30 = some ⟨oc30, od30, .func (PySem.W.fnOf "_law_is_refused" "_law_is_refused" (defArgs s__law_is_refused) (defBody s__law_is_refused) (defScope s__law_is_refused) .none kV30 dc30 pm30 an30 cd30 ct30), sl30⟩) (c30 : PySem.W.codeIn K cd30 "_law_is_refused" = true) (k30 : PySem.W.keepIn K (.ref f30) = true)
    (a31 : PySem.W.nsIn K mainGlobals "law" = some (some (.ref f31))) (l31 : K.lookup f31 = some ⟨oc31, od31, .func (PySem.W.fnOf "law" "law" (defArgs s_law) (defBody s_law) (defScope s_law) .none kV31 dc31 pm31 an31 cd31 ct31), sl31⟩) (c31 : PySem.W.codeIn K cd31 "law" = true) (k31 : PySem.W.keepIn K (.ref f31) = true)
    (z_abs : PySem.W.nsIn K mainGlobals "abs" = some none)
    (z_all : PySem.W.nsIn K mainGlobals "all" = some none)
    (z_bool : PySem.W.nsIn K mainGlobals "bool" = some none)
    (z_enumerate : PySem.W.nsIn K mainGlobals "enumerate" = some none)
    (z_int : PySem.W.nsIn K mainGlobals "int" = some none)
    (z_isinstance : PySem.W.nsIn K mainGlobals "isinstance" = some none)
    (z_len : PySem.W.nsIn K mainGlobals "len" = some none)
    (z_list : PySem.W.nsIn K mainGlobals "list" = some none)
    (z_range : PySem.W.nsIn K mainGlobals "range" = some none)
    (z_repr : PySem.W.nsIn K mainGlobals "repr" = some none)
    (z_sum : PySem.W.nsIn K mainGlobals "sum" = some none)
    (z_tuple : PySem.W.nsIn K mainGlobals "tuple" = some none)
    (z_gcd : PySem.W.nsIn K mainGlobals "gcd" = some (some (.builtin "math.gcd")))
    (zN : PySem.W.nsIn K mainGlobals "END" = some (some (.ref aN))) (lN : K.lookup aN = some ⟨.type "tuple", ddN, .seq #[.str "end" tN] nN, slN⟩)
    (zMOST_STEPS : PySem.W.nsIn K mainGlobals "MOST_STEPS" = some (some (.int 16 tMOST_STEPS)))
    (zMOST_PARTS : PySem.W.nsIn K mainGlobals "MOST_PARTS" = some (some (.int 48 tMOST_PARTS)))
    (zMOST_TERMS : PySem.W.nsIn K mainGlobals "MOST_TERMS" = some (some (.int 4 tMOST_TERMS)))
    (zMOST_MIX_PARTS : PySem.W.nsIn K mainGlobals "MOST_MIX_PARTS" = some (some (.int 96 tMOST_MIX_PARTS)))
    (zVE : PySem.W.nsIn K mainGlobals "ValueError" = some none) (zv : PySem.W.findCls K (.type "ValueError") (.type "type") "__init__" = some (.val (.builtin "ValueError.__init__"))) (zM_ : PySem.W.nsIn K mainGlobals "MixError" = some (some (.ref CM_))) (iM_ : PySem.W.findCls K (.ref CM_) (.type "type") "__init__" = some (.val (.ref fM_))) (lM_ : K.lookup fM_ = some ⟨ocM_, odM_, .func (PySem.W.fnOf "__init__" "MixError.__init__" (defArgs s_i_MixError) (defBody s_i_MixError) (defScope s_i_MixError) .none kVM_ dcM_ pmM_ anM_ cdM_ ctM_), slM_⟩) (cM_ : PySem.W.codeIn K cdM_ "MixError.__init__" = true) (xM_ : baseB K CM_ fM_ = true)
    (z_BadMix : PySem.W.nsIn K mainGlobals "BadMix" = some (some (.ref C_BadMix))) (i_BadMix : PySem.W.findIn K (.ref C_BadMix) "__init__" = some (some (.ref f_BadMix))) (l_BadMix : K.lookup f_BadMix = some ⟨oc_BadMix, od_BadMix, .func (PySem.W.fnOf "__init__" "BadMix.__init__" (defArgs s_i_BadMix) (defBody s_i_BadMix) (defScope s_i_BadMix) .none kV_BadMix dc_BadMix pm_BadMix an_BadMix cd_BadMix ct_BadMix), sl_BadMix⟩) (c_BadMix : PySem.W.codeIn K cd_BadMix "BadMix.__init__" = true) (k_BadMix : PySem.W.keepIn K (.ref f_BadMix) = true) (x_BadMix : errB K C_BadMix CM_ f_BadMix "BadMix" = true)
    (tA : cd5 = .ref cA) (uA : K.lookup cA = some ⟨ocA, ddA, .fields vsA, slA⟩) (vA : vsA[11]? = some (.ref PA)) (nA : K.lookup PA = none) (hA : CodeK ocA vsA cA PA) :
    ∃ (fd : FuncData) (cs : List (Addr × Addr)), (∀ p ∈ cs, h.get? p.2 = some { cls := .none, data := .fields #[] }) ∧ (∀ p ∈ cs, K.lookup p.2 = none) ∧ (∀ p ∈ cs, PySem.W.CodeHd h p.1 p.2) ∧ (∀ (s : Shared) (u : Value), BindsTo s fd ⟨[u], []⟩ [("_law_script", u)]) ∧
      (∀ (H : Hp) (a : Addr) (ns : List Int), ns.length ≤ 63 → (∀ p ∈ cs, H p.2 = some (.tbl #[])) → SqL K H a (ns.map V.int) → spLaw K PA [.ref a] H (fun v _ => v = .bl true) E0) ∧
      ∀ base : Heap, K.In base → base.Ns mainGlobals mg → (∀ p ∈ cs, GxR.TabB base mg p.1 p.2) → FnG l.prog w K mg base 23 fa fd ["_law_script"] (spLaw K PA) := by
  have e := hfa.symm.trans (PySem.W.mg_of X G a31)
  cases e
  let T : Txt K mg := {
    d_is_whole := ⟨f1, _, fun_mk (st := s_is_whole) l1 c1 k1, (fun_mk (st := s_is_whole) l1 c1 k1).binds (ps := ["value"]) (fun _ _ _ _ _ _ us hl => match us, hl with | [_], _ => rfl), PySem.W.mg_of X G a1⟩,
    d_is_fraction := ⟨f2, _, fun_mk (st := s_is_fraction) l2 c2 k2, (fun_mk (st := s_is_fraction) l2 c2 k2).binds (ps := ["value"]) (fun _ _ _ _ _ _ us hl => match us, hl with | [_], _ => rfl), PySem.W.mg_of X G a2⟩,
    d_is_above_zero := ⟨f3, _, fun_mk (st := s_is_above_zero) l3 c3 k3, (fun_mk (st := s_is_above_zero) l3 c3 k3).binds (ps := ["value"]) (fun _ _ _ _ _ _ us hl => match us, hl with | [_], _ => rfl), PySem.W.mg_of X G a3⟩,
    d_is_outcome := ⟨f4, _, fun_mk (st := s_is_outcome) l4 c4 k4, (fun_mk (st := s_is_outcome) l4 c4 k4).binds (ps := ["value"]) (fun _ _ _ _ _ _ us hl => match us, hl with | [_], _ => rfl), PySem.W.mg_of X G a4⟩,
    d_has_form_of_step := ⟨f5, _, fun_mk (st := s_has_form_of_step) l5 c5 k5, (fun_mk (st := s_has_form_of_step) l5 c5 k5).binds (ps := ["value"]) (fun _ _ _ _ _ _ us hl => match us, hl with | [_], _ => rfl), PySem.W.mg_of X G a5⟩,
    d_has_form_of_all := ⟨f6, _, fun_mk (st := s_has_form_of_all) l6 c6 k6, (fun_mk (st := s_has_form_of_all) l6 c6 k6).binds (ps := ["value"]) (fun _ _ _ _ _ _ us hl => match us, hl with | [_], _ => rfl), PySem.W.mg_of X G a6⟩,
    d_has_form_of_term := ⟨f7, _, fun_mk (st := s_has_form_of_term) l7 c7 k7, (fun_mk (st := s_has_form_of_term) l7 c7 k7).binds (ps := ["value"]) (fun _ _ _ _ _ _ us hl => match us, hl with | [_], _ => rfl), PySem.W.mg_of X G a7⟩,
    d_is_step := ⟨f8, _, fun_mk (st := s_is_step) l8 c8 k8, (fun_mk (st := s_is_step) l8 c8 k8).binds (ps := ["term"]) (fun _ _ _ _ _ _ us hl => match us, hl with | [_], _ => rfl), PySem.W.mg_of X G a8⟩,
    d_children := ⟨f9, _, fun_mk (st := s_children) l9 c9 k9, (fun_mk (st := s_children) l9 c9 k9).binds (ps := ["term"]) (fun _ _ _ _ _ _ us hl => match us, hl with | [_], _ => rfl), PySem.W.mg_of X G a9⟩,
    d_measure := ⟨f10, _, fun_mk (st := s_measure) l10 c10 k10, (fun_mk (st := s_measure) l10 c10 k10).binds (ps := ["value"]) (fun _ _ _ _ _ _ us hl => match us, hl with | [_], _ => rfl), PySem.W.mg_of X G a10⟩,
    d_is_mix := ⟨f11, _, fun_mk (st := s_is_mix) l11 c11 k11, (fun_mk (st := s_is_mix) l11 c11 k11).binds (ps := ["value"]) (fun _ _ _ _ _ _ us hl => match us, hl with | [_], _ => rfl), PySem.W.mg_of X G a11⟩,
    d_require_mix := ⟨f12, _, fun_mk (st := s_require_mix) l12 c12 k12, (fun_mk (st := s_require_mix) l12 c12 k12).binds (ps := ["value"]) (fun _ _ _ _ _ _ us hl => match us, hl with | [_], _ => rfl), PySem.W.mg_of X G a12⟩,
    d_product_of := ⟨f13, _, fun_mk (st := s_product_of) l13 c13 k13, (fun_mk (st := s_product_of) l13 c13 k13).binds (ps := ["integers"]) (fun _ _ _ _ _ _ us hl => match us, hl with | [_], _ => rfl), PySem.W.mg_of X G a13⟩,
    d_size_of_term := ⟨f14, _, fun_mk (st := s_size_of_term) l14 c14 k14, (fun_mk (st := s_size_of_term) l14 c14 k14).binds (ps := ["term"]) (fun _ _ _ _ _ _ us hl => match us, hl with | [_], _ => rfl), PySem.W.mg_of X G a14⟩,
    d_size_of_mix := ⟨f15, _, fun_mk (st := s_size_of_mix) l15 c15 k15, (fun_mk (st := s_size_of_mix) l15 c15 k15).binds (ps := ["mix"]) (fun _ _ _ _ _ _ us hl => match us, hl with | [_], _ => rfl), PySem.W.mg_of X G a15⟩,
    d_size := ⟨f16, _, fun_mk (st := s_size) l16 c16 k16, (fun_mk (st := s_size) l16 c16 k16).binds (ps := ["mix"]) (fun _ _ _ _ _ _ us hl => match us, hl with | [_], _ => rfl), PySem.W.mg_of X G a16⟩,
    d__law_open := ⟨f17, _, fun_mk (st := s__law_open) l17 c17 k17, (fun_mk (st := s__law_open) l17 c17 k17).binds (ps := ["_law_script"]) (fun _ _ _ _ _ _ us hl => match us, hl with | [_], _ => rfl), PySem.W.mg_of X G a17⟩,
    d__law_spread := ⟨f18, _, fun_mk (st := s__law_spread) l18 c18 k18, (fun_mk (st := s__law_spread) l18 c18 k18).binds (ps := ["_law_cell", "_law_k"]) (fun _ _ _ _ _ _ us hl => match us, hl with | [_, _], _ => rfl), PySem.W.mg_of X G a18⟩,
    d__law_take := ⟨f19, _, fun_mk (st := s__law_take) l19 c19 k19, (fun_mk (st := s__law_take) l19 c19 k19).binds (ps := ["_law_pen", "_law_many"]) (fun _ _ _ _ _ _ us hl => match us, hl with | [_, _], _ => rfl), PySem.W.mg_of X G a19⟩,
    d__law_one_of := ⟨f20, _, fun_mk (st := s__law_one_of) l20 c20 k20, (fun_mk (st := s__law_one_of) l20 c20 k20).binds (ps := ["_law_pen", "_law_some"]) (fun _ _ _ _ _ _ us hl => match us, hl with | [_, _], _ => rfl), PySem.W.mg_of X G a20⟩,
    d__law_fr := ⟨f21, _, fun_mk (st := s__law_fr) l21 c21 k21, (fun_mk (st := s__law_fr) l21 c21 k21).binds (ps := ["_law_top", "_law_bottom"]) (fun _ _ _ _ _ _ us hl => match us, hl with | [_, _], _ => rfl), PySem.W.mg_of X G a21⟩,
    d__law_weights := ⟨f22, _, fun_mk (st := s__law_weights) l22 c22 k22, (fun_mk (st := s__law_weights) l22 c22 k22).binds (ps := ["_law_pen", "_law_way"]) (fun _ _ _ _ _ _ us hl => match us, hl with | [_, _], _ => rfl), PySem.W.mg_of X G a22⟩,
    d__law_pay := ⟨f23, _, fun_mk (st := s__law_pay) l23 c23 k23, (fun_mk (st := s__law_pay) l23 c23 k23).binds (ps := ["_law_pen", "_law_way"]) (fun _ _ _ _ _ _ us hl => match us, hl with | [_, _], _ => rfl), PySem.W.mg_of X G a23⟩,
    d__law_term := ⟨f24, _, fun_mk (st := s__law_term) l24 c24 k24, (fun_mk (st := s__law_term) l24 c24 k24).binds (ps := ["_law_pen", "_law_way", "_law_deep"]) (fun _ _ _ _ _ _ us hl => match us, hl with | [_, _, _], _ => rfl), PySem.W.mg_of X G a24⟩,
    d__law_steps := ⟨f25, _, fun_mk (st := s__law_steps) l25 c25 k25, (fun_mk (st := s__law_steps) l25 c25 k25).binds (ps := ["_law_term_here"]) (fun _ _ _ _ _ _ us hl => match us, hl with | [_], _ => rfl), PySem.W.mg_of X G a25⟩,
    d__law_size := ⟨f26, _, fun_mk (st := s__law_size) l26 c26 k26, (fun_mk (st := s__law_size) l26 c26 k26).binds (ps := ["_law_term_here"]) (fun _ _ _ _ _ _ us hl => match us, hl with | [_], _ => rfl), PySem.W.mg_of X G a26⟩,
    d__law_size_of := ⟨f27, _, fun_mk (st := s__law_size_of) l27 c27 k27, (fun_mk (st := s__law_size_of) l27 c27 k27).binds (ps := ["_law_mix_here"]) (fun _ _ _ _ _ _ us hl => match us, hl with | [_], _ => rfl), PySem.W.mg_of X G a27⟩,
    d__law_parts := ⟨f28, _, fun_mk (st := s__law_parts) l28 c28 k28, (fun_mk (st := s__law_parts) l28 c28 k28).binds (ps := ["_law_term_here"]) (fun _ _ _ _ _ _ us hl => match us, hl with | [_], _ => rfl), PySem.W.mg_of X G a28⟩,
    d__law_mix := ⟨f29, _, fun_mk (st := s__law_mix) l29 c29 k29, (fun_mk (st := s__law_mix) l29 c29 k29).binds (ps := ["_law_pen", "_law_way", "_law_most"]) (fun _ _ _ _ _ _ us hl => match us, hl with | [_, _, _], _ => rfl), PySem.W.mg_of X G a29⟩,
    d__law_is_refused := ⟨f30, _, fun_mk (st := s__law_is_refused) l30 c30 k30, (fun_mk (st := s__law_is_refused) l30 c30 k30).binds (ps := ["_law_thing"]) (fun _ _ _ _ _ _ us hl => match us, hl with | [_], _ => rfl), PySem.W.mg_of X G a30⟩,
    d_law := ⟨fa, _, fun_mk (st := s_law) l31 c31 k31, (fun_mk (st := s_law) l31 c31 k31).binds (ps := ["_law_script"]) (fun _ _ _ _ _ _ us hl => match us, hl with | [_], _ => rfl), PySem.W.mg_of X G a31⟩,
    n_abs := PySem.W.mg_none_of X G z_abs,
    n_all := PySem.W.mg_none_of X G z_all,
    n_bool := PySem.W.mg_none_of X G z_bool,
    n_enumerate := PySem.W.mg_none_of X G z_enumerate,
    n_int := PySem.W.mg_none_of X G z_int,
    n_isinstance := PySem.W.mg_none_of X G z_isinstance,
    n_len := PySem.W.mg_none_of X G z_len,
    n_list := PySem.W.mg_none_of X G z_list,
    n_range := PySem.W.mg_none_of X G z_range,
    n_repr := PySem.W.mg_none_of X G z_repr,
    n_sum := PySem.W.mg_none_of X G z_sum,
    n_tuple := PySem.W.mg_none_of X G z_tuple,
    n_gcd := PySem.W.mg_of X G z_gcd,
    a_END := aN, c_END := PySem.W.mg_of X G zN, k_END := ⟨_, _, _, lN, rfl, rfl, (by show 1 ≤ sizeLine; decide), .cons ⟨_, rfl⟩ .nil⟩,
    t_MOST_STEPS := tMOST_STEPS, c_MOST_STEPS := PySem.W.mg_of X G zMOST_STEPS,
    t_MOST_PARTS := tMOST_PARTS, c_MOST_PARTS := PySem.W.mg_of X G zMOST_PARTS,
    t_MOST_TERMS := tMOST_TERMS, c_MOST_TERMS := PySem.W.mg_of X G zMOST_TERMS,
    t_MOST_MIX_PARTS := tMOST_MIX_PARTS, c_MOST_MIX_PARTS := PySem.W.mg_of X G zMOST_MIX_PARTS,
    n_ValueError := PySem.W.mg_none_of X G zVE, v_VE := zv, M := { C := CM_, f := fM_, fd := _, g := PySem.W.mg_of X G zM_, F := fun_mk (st := s_i_MixError) lM_ cM_ (base_ok xM_).2.2, b := (fun_mk (st := s_i_MixError) lM_ cM_ (base_ok xM_).2.2).binds (ps := ["self", "value"]) (fun _ _ _ _ _ _ us hl => match us, hl with | [_, _], _ => rfl), rd := (base_ok xM_).1, ga := (base_ok xM_).2.1, fi := iM_, kp := (base_ok xM_).2.2 },
    E_BadMix := { C := C_BadMix, f := f_BadMix, fd := _, g := PySem.W.mg_of X G z_BadMix, F := fun_mk (st := s_i_BadMix) l_BadMix c_BadMix k_BadMix, b := (fun_mk (st := s_i_BadMix) l_BadMix c_BadMix k_BadMix).binds (ps := ["self", "value"]) (fun _ _ _ _ _ _ us hl => match us, hl with | [_, _], _ => rfl), x := err_ok x_BadMix },
    c_has_form_of_step := cA, P_has_form_of_step := PA, h_has_form_of_step := tA }
  refine ⟨PySem.W.fnOf "law" "law" (defArgs s_law) (defBody s_law) (defScope s_law) .none kV31 dc31 pm31 an31 cd31 ct31, [(cA, PA)], ?_, ?_, ?_, fun s v => .of_eq rfl, ?_, fun base _ _ hb => ok_law T (hb (cA, PA) (by simp))⟩
  · intro p hp
    rw [List.mem_singleton] at hp
    subst hp
    exact hE f5 cA PA _ _ _ _ _ _ (PySem.W.mg_of X G a5) l5 rfl tA uA vA
  · intro p hp
    rw [List.mem_singleton] at hp
    subst hp
    exact nA
  · intro p hp
    rw [List.mem_singleton] at hp
    subst hp
    obtain ⟨file, tf, flags, tg, inF, text, tt, h1, h2, h3, h4, h5, h6, h7⟩ := hA
    exact ⟨_, vsA, file, tf, flags, tg, inF, text, tt, X _ _ uA, h1, rfl, vA, h2, h3, h4, h5, h6, h7⟩
  · intro H a ns hl hT hS
    exact ⟨a, ns, rfl, hS, hl, ⟨#[], hT (cA, PA) (by simp), trivial⟩, fun _ => rfl⟩
end Jf
open PySem PySem.W PyProof.Rows
set_option maxRecDepth 100000 in
set_option maxHeartbeats 0 in
theorem PySem.Challenge.cw_onenumber_k36_sizes_holds : PySem.Challenge.rw_onenumber_k36_sizes.Holds := by
  w_on; o_law; k_head; (case hw => w_witness2)
  k_fill
  refine' Jf.walk_ofGK (l := PySem.Challenge.rw_onenumber_k36_sizes) (n := 63) (k := 23) (x := "_law_script") (y := "has_form_of_step") (sp := Jf.spLaw) rfl (by decide) rfl ⟨rfl, by decide, by decide⟩ (by decide) (fun w h Y => PySem.W.kIn_of Y) ?F
  case F =>
    intro w mg fa h KX G hmg hE
    refine' Jf.all_mk KX G hmg hE ?a1 ?l1 ?c1 ?k1 ?a2 ?l2 ?c2 ?k2 ?a3 ?l3 ?c3 ?k3 ?a4 ?l4 ?c4 ?k4 ?a5 ?l5 ?c5 ?k5 ?a6 ?l6 ?c6 ?k6 ?a7 ?l7 ?c7 ?k7 ?a8 ?l8 ?c8 ?k8 ?a9 ?l9 ?c9 ?k9 ?a10 ?l10 ?c10 ?k10 ?a11 ?l11 ?c11 ?k11 ?a12 ?l12 ?c12 ?k12 ?a13 ?l13 ?c13 ?k13 ?a14 ?l14 ?c14 ?k14 ?a15 ?l15 ?c15 ?k15 ?a16 ?l16 ?c16 ?k16 ?a17 ?l17 ?c17 ?k17 ?a18 ?l18 ?c18 ?k18 ?a19 ?l19 ?c19 ?k19 ?a20 ?l20 ?c20 ?k20 ?a21 ?l21 ?c21 ?k21 ?a22 ?l22 ?c22 ?k22 ?a23 ?l23 ?c23 ?k23 ?a24 ?l24 ?c24 ?k24 ?a25 ?l25 ?c25 ?k25 ?a26 ?l26 ?c26 ?k26 ?a27 ?l27 ?c27 ?k27 ?a28 ?l28 ?c28 ?k28 ?a29 ?l29 ?c29 ?k29 ?a30 ?l30 ?c30 ?k30 ?a31 ?l31 ?c31 ?k31 ?z_abs ?z_all ?z_bool ?z_enumerate ?z_int ?z_isinstance ?z_len ?z_list ?z_range ?z_repr ?z_sum ?z_tuple ?z_gcd ?zN ?lN ?zMOST_STEPS ?zMOST_PARTS ?zMOST_TERMS ?zMOST_MIX_PARTS ?zVE ?zv ?zM_ ?iM_ ?lM_ ?cM_ ?xM_ ?z_BadMix ?i_BadMix ?l_BadMix ?c_BadMix ?k_BadMix ?x_BadMix ?tA ?uA ?vA ?nA ?hA
    (case a1 => k_is)
    (case l1 => k_is)
    (case c1 => k_is)
    (case k1 => k_is)
    (case a2 => k_is)
    (case l2 => k_is)
    (case c2 => k_is)
    (case k2 => k_is)
    (case a3 => k_is)
    (case l3 => k_is)
    (case c3 => k_is)
    (case k3 => k_is)
    (case a4 => k_is)
    (case l4 => k_is)
    (case c4 => k_is)
    (case k4 => k_is)
    (case a5 => k_is)
    (case l5 => k_is)
    (case c5 => k_is)
    (case k5 => k_is)
    (case a6 => k_is)
    (case l6 => k_is)
    (case c6 => k_is)
    (case k6 => k_is)
    (case a7 => k_is)
    (case l7 => k_is)
    (case c7 => k_is)
    (case k7 => k_is)
    (case a8 => k_is)
    (case l8 => k_is)
    (case c8 => k_is)
    (case k8 => k_is)
    (case a9 => k_is)
    (case l9 => k_is)
    (case c9 => k_is)
    (case k9 => k_is)
    (case a10 => k_is)
    (case l10 => k_is)
    (case c10 => k_is)
    (case k10 => k_is)
    (case a11 => k_is)
    (case l11 => k_is)
    (case c11 => k_is)
    (case k11 => k_is)
    (case a12 => k_is)
    (case l12 => k_is)
    (case c12 => k_is)
    (case k12 => k_is)
    (case a13 => k_is)
    (case l13 => k_is)
    (case c13 => k_is)
    (case k13 => k_is)
    (case a14 => k_is)
    (case l14 => k_is)
    (case c14 => k_is)
    (case k14 => k_is)
    (case a15 => k_is)
    (case l15 => k_is)
    (case c15 => k_is)
    (case k15 => k_is)
    (case a16 => k_is)
    (case l16 => k_is)
    (case c16 => k_is)
    (case k16 => k_is)
    (case a17 => k_is)
    (case l17 => k_is)
    (case c17 => k_is)
    (case k17 => k_is)
    (case a18 => k_is)
    (case l18 => k_is)
    (case c18 => k_is)
    (case k18 => k_is)
    (case a19 => k_is)
    (case l19 => k_is)
    (case c19 => k_is)
    (case k19 => k_is)
    (case a20 => k_is)
    (case l20 => k_is)
    (case c20 => k_is)
    (case k20 => k_is)
    (case a21 => k_is)
    (case l21 => k_is)
    (case c21 => k_is)
    (case k21 => k_is)
    (case a22 => k_is)
    (case l22 => k_is)
    (case c22 => k_is)
    (case k22 => k_is)
    (case a23 => k_is)
    (case l23 => k_is)
    (case c23 => k_is)
    (case k23 => k_is)
    (case a24 => k_is)
    (case l24 => k_is)
    (case c24 => k_is)
    (case k24 => k_is)
    (case a25 => k_is)
    (case l25 => k_is)
    (case c25 => k_is)
    (case k25 => k_is)
    (case a26 => k_is)
    (case l26 => k_is)
    (case c26 => k_is)
    (case k26 => k_is)
    (case a27 => k_is)
    (case l27 => k_is)
    (case c27 => k_is)
    (case k27 => k_is)
    (case a28 => k_is)
    (case l28 => k_is)
    (case c28 => k_is)
    (case k28 => k_is)
    (case a29 => k_is)
    (case l29 => k_is)
    (case c29 => k_is)
    (case k29 => k_is)
    (case a30 => k_is)
    (case l30 => k_is)
    (case c30 => k_is)
    (case k30 => k_is)
    (case a31 => k_is)
    (case l31 => k_is)
    (case c31 => k_is)
    (case k31 => k_is)
    (case z_abs => k_is)
    (case z_all => k_is)
    (case z_bool => k_is)
    (case z_enumerate => k_is)
    (case z_int => k_is)
    (case z_isinstance => k_is)
    (case z_len => k_is)
    (case z_list => k_is)
    (case z_range => k_is)
    (case z_repr => k_is)
    (case z_sum => k_is)
    (case z_tuple => k_is)
    (case z_gcd => k_is)
    (case zN => k_is)
    (case lN => k_is)
    (case zMOST_STEPS => k_is)
    (case zMOST_PARTS => k_is)
    (case zMOST_TERMS => k_is)
    (case zMOST_MIX_PARTS => k_is)
    (case zVE => k_is)
    (case zv => k_is)
    (case zM_ => k_is)
    (case iM_ => k_is)
    (case lM_ => k_is)
    (case cM_ => k_is)
    (case xM_ => kernel_rfl)
    (case z_BadMix => k_is)
    (case i_BadMix => k_is)
    (case l_BadMix => k_is)
    (case c_BadMix => k_is)
    (case k_BadMix => k_is)
    (case x_BadMix => kernel_rfl)
    (case tA => rfl)
    (case uA => k_is)
    (case vA => rfl)
    (case nA => rfl)
    (case hA => exact ⟨_, _, _, _, _, _, _, rfl, rfl, rfl, rfl, rfl, rfl, by decide⟩)
